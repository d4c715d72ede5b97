"""The net of an overlap, and what both rules make of it [22]."""

from weave.laying import laid
from weave.nets import OUTER, inner_wires, links_of, ports_in, renamed, wires_of
from weave.stock import mate_of


def place_behind(many, left, sharing):
    """The place of a left in a net of so many boxes, to which it is glued, and of its own boxes behind them."""
    mates = {there: own for own, there in sharing}
    own_boxes = [box for box in range(len(left[1])) if box not in mates]
    behind = {box: many + at for at, box in enumerate(own_boxes)}
    return tuple(mates[box] if box in mates else behind[box] for box in range(len(left[1])))


def with_outers(stock, boxes, inner):
    """The net of boxes and inner wires that has an outer for each other port, in the order of these."""
    links = links_of(inner)
    free = [(end, spec) for end, spec in ports_in(stock, boxes) if end not in links]
    outers = tuple(mate_of(spec) for end, spec in free)
    edge = [((OUTER, at), end) for at, (end, spec) in enumerate(free)]
    return (outers, boxes, wires_of(edge + inner), ())


def glued(stock, rules, overlap):
    """The net of an overlap, and the places of both rules in it."""
    number, other, sharing = overlap
    left, other_left = rules[number][0], rules[other][0]
    many = len(left[1])
    place = place_behind(many, other_left, sharing)
    boxes = left[1] + tuple(kind for box, kind in zip(place, other_left[1]) if box >= many)
    # Wires of both lefts between boxes that they share stand once.
    inner = sorted(set(inner_wires(left) + list(renamed(inner_wires(other_left), place))))
    return (with_outers(stock, boxes, inner), tuple(range(many)), place)


def outcomes(stock, rules, overlap):
    """The tuple of the two nets that the rules make of the net of an overlap."""
    number, other, sharing = overlap
    net, place, other_place = glued(stock, rules, overlap)
    return (laid(net, rules[number], place), laid(net, rules[other], other_place))
