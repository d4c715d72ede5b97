"""Nets and stocks as texts [7], [8]."""

from weave.errors import NoStock, NoText, Twice
from weave.nets import OUTER, is_net, wires_of
from weave.stock import LETTERS, NAME_MOST, is_entry, is_name, is_spec, is_stock, ports_of
from weave.things import is_spelled

FIGURES = "0123456789"
MANY_MOST = 9


def show_spec(spec):
    """A spec as a word: its side and its sort."""
    sort, side = spec
    return side + sort


def show_list(rows):
    """Rows of words as one of the three parts of a net's text."""
    return ", ".join(" ".join(words) for words in rows) if rows else "-"


def show_net(net):
    """The text of a net, its wires called by their numbers."""
    outers, boxes, wires, rings = net
    names = {end: str(at) for at, wire in enumerate(wires) for end in wire}
    ends = sorted(names)
    box_rows = [[kind] + [names[end] for end in ends if end[0] == box] for box, kind in enumerate(boxes)]
    outer_rows = [[show_spec(spec), names[(OUTER, at)]] for at, spec in enumerate(outers)]
    ring_rows = [[sort, str(many)] for sort, many in rings]
    return " ; ".join([show_list(box_rows), show_list(outer_rows), show_list(ring_rows)])


def read_list(part):
    """The rows of words of one of the three parts of a net's text."""
    if part == "-":
        return []
    return [row.split(" ") for row in part.split(", ")]


def read_spec(word):
    """The tuple (sort, side) of a word, which is a spec where the word is right."""
    return (word[1:], word[:1])


def is_wire_name(word):
    """Whether a wire may be called so."""
    return is_spelled(word, LETTERS + FIGURES, NAME_MOST)


def is_many(word):
    """Whether it tells how many rings of a sort there are."""
    return is_spelled(word, FIGURES, MANY_MOST) and word[0] != "0"


def is_box_row(stock, words):
    """Whether these are a kind of the stock and a wire for each of its ports."""
    if words[0] not in [kind for kind, ports in stock]:
        return False
    return len(words) == 1 + len(ports_of(stock, words[0])) and all(is_wire_name(word) for word in words[1:])


def is_outer_row(words):
    """Whether these are a spec and a wire."""
    return len(words) == 2 and is_spec(read_spec(words[0])) and is_wire_name(words[1])


def is_ring_row(words):
    """Whether these are a sort and how many."""
    return len(words) == 2 and is_name(words[0]) and is_many(words[1])


def ends_by_name(box_rows, outer_rows):
    """A dict that has for each wire's name the list of the ends at which it stands."""
    ends = {}
    for at, words in enumerate(outer_rows):
        ends.setdefault(words[1], []).append((OUTER, at))
    for box, words in enumerate(box_rows):
        for port, word in enumerate(words[1:]):
            ends.setdefault(word, []).append((box, port))
    return ends


def net_from(box_rows, outer_rows, ring_rows):
    """The net of rows that are right each by itself, or None where some wire hasn't just two ends."""
    pairs = list(ends_by_name(box_rows, outer_rows).values())
    if any(len(pair) != 2 for pair in pairs):
        return None
    outers = tuple(read_spec(words[0]) for words in outer_rows)
    boxes = tuple(words[0] for words in box_rows)
    rings = tuple((words[0], int(words[1])) for words in ring_rows)
    return (outers, boxes, wires_of(pairs), rings)


def read_net(stock, text):
    """The net of a text, or NoText."""
    parts = text.split(" ; ")
    if len(parts) != 3:
        raise NoText(0)
    box_rows, outer_rows, ring_rows = [read_list(part) for part in parts]
    right_boxes = all(is_box_row(stock, words) for words in box_rows)
    right_outers = all(is_outer_row(words) for words in outer_rows)
    right_rings = all(is_ring_row(words) for words in ring_rows)
    if not (right_boxes and right_outers and right_rings):
        raise NoText(0)
    net = net_from(box_rows, outer_rows, ring_rows)
    # Rows that are right may still join ends that are no mates, or have rings out of order.
    if not is_net(stock, net):
        raise NoText(0)
    return net


def show_kind(kind, ports):
    """The text of a kind."""
    return " ".join([kind, "="] + [show_spec(spec) for spec in ports])


def read_kind(text):
    """The tuple (kind, ports) of a text, or None."""
    words = text.split(" ")
    entry = (words[0], tuple(read_spec(word) for word in words[2:]))
    return entry if words[1:2] == ["="] and is_entry(entry) else None


def read_stock(texts):
    """The stock of a list of texts, or NoText, Twice or NoStock."""
    entries = [read_kind(text) for text in texts]
    for at, entry in enumerate(entries):
        if entry is None:
            raise NoText(at)
    kinds = [entry[0] for entry in entries]
    for at, kind in enumerate(kinds):
        if kind in kinds[:at]:
            raise Twice(kind)
    stock = tuple(sorted(entries))
    if not is_stock(stock):
        raise NoStock("a stock has one to eight kinds")
    return stock
