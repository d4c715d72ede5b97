"""Stocks, nets and odd things that several tests use."""

from weave.rules import rule_of
from weave.texts import read_net, read_stock

PLUS = ("n", "+")
MINUS = ("n", "-")

# add takes two and gives one, cut takes one, dup takes one and gives two, one gives one.
STOCK = (
    ("add", (PLUS, PLUS, MINUS)),
    ("cut", (MINUS,)),
    ("dup", (PLUS, MINUS, MINUS)),
    ("neg", (PLUS, MINUS)),
    ("one", (PLUS,)),
    ("two", (("m", "+"), ("m", "-"), PLUS, MINUS)),
)

EMPTY = ((), (), (), ())

# The sample of [7].
SAMPLE = (
    (PLUS, PLUS, MINUS, MINUS),
    ("add", "cut"),
    (((-1, 0), (0, 2)), ((-1, 1), (-1, 2)), ((-1, 3), (0, 0)), ((0, 1), (1, 0))),
    (),
)
SAMPLE_TEXT = "add 2 3 0, cut 3 ; +n 0, +n 1, -n 1, -n 2 ; -"

# A box joined to itself, beside two kinds of rings.
LOOP = ((), ("neg",), (((0, 0), (0, 1)),), (("m", 1), ("n", 12)))

# Outers that are joined to one another, and nothing else.
THROUGH = ((PLUS, MINUS), (), (((-1, 0), (-1, 1)),), ())

# A box whose four ports are joined in two loops, and an outer of a sort that no kind has.
WIDE = (
    (("zzzzzzzz", "-"), ("zzzzzzzz", "+")),
    ("two",),
    (((-1, 0), (-1, 1)), ((0, 0), (0, 1)), ((0, 2), (0, 3))),
    (("a", 1), ("b", 10**29)),
)

NETS = (EMPTY, SAMPLE, LOOP, THROUGH, WIDE)

DEEP = ()
for _ in range(50):
    DEEP = (1, [DEEP])

ANYTHING = (
    None, True, False, 0, 1, -1, 10**29, "", "a", "n", "+", "-", "outers", "part", (), [], ((),), [[]], ([],), [()],
    (None,), (True,), (0,), ("n",), ("n", "+"), ["n", "+"], (("n", "+"),), ((), ()), ((), (), (), ()), [(), (), (), ()],
    ([], [], [], []), (0, 1), (0, 0), [0, 1], ((0, 1), (0, 2)), ("outers", None), (None, None, None, None), DEEP, [DEEP],
    (DEEP, DEEP), (DEEP, DEEP, DEEP, DEEP), ("part", DEEP, 1, 2), ("wire", DEEP, DEEP),
)


def net(text):
    return read_net(STOCK, text)


def rule(left, right):
    return rule_of(net(left), net(right))


def bent(thing):
    """Copies of a thing in which just one spot, at any depth, is of another kind."""
    if isinstance(thing, tuple):
        yield list(thing)
        yield None
        yield 0
        yield "a"
        for at, inner in enumerate(thing):
            for other in bent(inner):
                yield thing[:at] + (other,) + thing[at + 1:]
    elif isinstance(thing, str):
        yield from (None, 0, True, (), [], (thing,), [thing], "", thing.upper() + "A", thing + " ")
    else:
        yield from (None, str(thing), (thing,), [thing], True, False, "")


def shuffled(net, order):
    """The net with its box b called order[b]: alike to it by that naming."""
    outers, boxes, wires, rings = net
    kinds = [None] * len(boxes)
    for box, kind in enumerate(boxes):
        kinds[order[box]] = kind
    ends = [[(box if box < 0 else order[box], port) for box, port in wire] for wire in wires]
    return outers, tuple(kinds), tuple(sorted(tuple(sorted(pair)) for pair in ends)), rings


SIDES = {"add": "++-", "cut": "-", "dup": "+--", "neg": "+-", "one": "+"}


def ends_by_side(boxes, outers):
    """The ports of the boxes, then the outers, by their sides."""
    ends = {"+": [], "-": []}
    for box, kind in enumerate(boxes):
        for port, side in enumerate(SIDES[kind]):
            ends[side].append((box, port))
    for at, side in enumerate(outers):
        ends[side].append((-1, at))
    return ends


def joined_by_chance(chance, boxes, outers):
    """A net of these boxes and outers, told by their sides, as many of the one as of the other, joined by chance."""
    ends = ends_by_side(boxes, outers)
    chance.shuffle(ends["-"])
    wires = tuple(sorted(tuple(sorted(pair)) for pair in zip(ends["+"], ends["-"])))
    rings = chance.choice(((), (), (), (("n", 1),), (("m", 2), ("n", 1))))
    return tuple(("n", side) for side in outers), tuple(boxes), wires, rings


def some_net(chance, most):
    """A net of a few boxes of one sort, its ends joined by chance, by a source that tells the same each time."""
    boxes = [chance.choice(sorted(SIDES)) for _ in range(chance.randint(0, most))]
    outers = [chance.choice("+-") for _ in range(chance.randint(0, 2))]
    ends = ends_by_side(boxes, outers)
    outers += ["+"] * (len(ends["-"]) - len(ends["+"])) + ["-"] * (len(ends["+"]) - len(ends["-"]))
    return joined_by_chance(chance, boxes, outers)


def net_with_outers(chance, specs, most):
    """A net of these outers, all of the sort n, by chance."""
    outers = [side for _, side in specs]
    boxes = [chance.choice(sorted(SIDES)) for _ in range(chance.randint(0, most))]
    ends = ends_by_side(boxes, outers)
    boxes += ["one"] * (len(ends["-"]) - len(ends["+"])) + ["cut"] * (len(ends["+"]) - len(ends["-"]))
    return joined_by_chance(chance, boxes, outers)


def tied_boxes(chance, net, most):
    """Boxes of the net that hang together by the told wires, chosen by chance, and these wires."""
    place, tied = [chance.randrange(len(net[1]))], []
    for _ in range(chance.randint(0, most - 1)):
        leading = [wire for wire in net[2] if wire[0][0] >= 0 and (wire[0][0] in place) != (wire[1][0] in place)]
        if leading:
            wire = chance.choice(leading)
            tied.append(wire)
            place += [box for box, _ in wire if box not in place]
    return chance.sample(place, len(place)), tied


def pattern_in(chance, net):
    """A pattern that has a place in the net, and the place; not each wire of the net there is one of the pattern."""
    place, kept = tied_boxes(chance, net, 3)
    kept += [wire for wire in net[2] if wire[0][0] in place and wire[1][0] in place and chance.random() < 0.5]
    calls = {box: at for at, box in enumerate(place)}
    inner = {tuple(sorted((calls[box], port) for box, port in wire)) for wire in kept}
    boxes = tuple(net[1][box] for box in place)
    taken = {end for wire in inner for end in wire}
    free = [(box, port) for box, kind in enumerate(boxes) for port in range(len(SIDES[kind])) if (box, port) not in taken]
    chance.shuffle(free)
    outers = tuple(("n", "-+"["+-".index(SIDES[boxes[box]][port])]) for box, port in free)
    edge = [((-1, at), end) for at, end in enumerate(free)]
    return (outers, boxes, tuple(sorted(edge + list(inner))), ()), tuple(place)


def some_rules(chance, net, many):
    """Rules that have places in the net, by chance, and for each of them a place."""
    rules, places = [], []
    for _ in range(many):
        left, place = pattern_in(chance, net)
        rules.append((left, net_with_outers(chance, left[0], 3)))
        places.append(place)
    return rules, places


def some_full_net(chance, most):
    """A net by chance with at least one box."""
    while True:
        told = some_net(chance, most)
        if told[1]:
            return told


# Kinds of one port in and one out: a row of them is written as a word of their letters.
CHAINS = read_stock([letter + " = +n -n" for letter in "abcde"])


def chain(word):
    """The net of a row of boxes, each one's port 1 leading to port 0 of the next one."""
    boxes = ", ".join(f"{letter} w{at} w{at + 1}" for at, letter in enumerate(word))
    return read_net(CHAINS, f"{boxes or '-'} ; -n w0, +n w{len(word)} ; -")


def chain_rule(left, right):
    return rule_of(chain(left), chain(right))


def word_of(net):
    """The word of a net that is one row of boxes from outer to outer, in whatever order they stand."""
    links = {}
    for one, other in net[2]:
        links[one], links[other] = other, one
    enters = net[0].index(MINUS)
    word, end = "", links[(-1, enters)]
    while end[0] >= 0:
        word += net[1][end[0]]
        end = links[(end[0], 1)]
    return word


def bends(thing, path=()):
    """Tuples (path, bent): copies of a thing of tuples, lists, texts and numbers in which just one spot is another."""
    if isinstance(thing, (tuple, list)):
        kind = type(thing)
        yield path, (list if kind is tuple else tuple)(thing)
        yield path, thing + kind((None,))
        for at, inner in enumerate(thing):
            yield path, thing[:at] + thing[at + 1:]
            for where, other in bends(inner, path + (at,)):
                yield where, thing[:at] + kind((other,)) + thing[at + 1:]
    elif isinstance(thing, int):
        for other in (thing + 1, thing - 1, str(thing), [thing]):
            yield path, other
        if thing in (0, 1):
            yield path, bool(thing)
    else:
        for other in ("", thing + "s", "b", None, (thing,)):
            if other != thing:
                yield path, other
    for other in (None, 0, True, "a", (), []):
        if other != thing or type(other) is not type(thing):
            yield path, other
