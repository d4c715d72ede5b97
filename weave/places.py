"""Places of a rule's left in a net [13]."""

from weave.nets import OUTER, called, inner_wires, links_of
from weave.things import are_whole


def fits(net, links, left, place):
    """Whether a tuple of whole numbers is a place; links are those of the net's wires."""
    boxes = net[1]
    if len(set(place)) != len(place) or not all(0 <= box < len(boxes) for box in place):
        return False
    if tuple(boxes[box] for box in place) != left[1]:
        return False
    return all(links[called(place, one)] == called(place, other) for one, other in inner_wires(left))


def ways_of(left):
    """The list of tuples (port, box): along these ports one comes from box 0 of a pattern to each other box."""
    inner = links_of(inner_wires(left))
    named = {0: True}
    ways = []
    # A pattern hangs together by its inner wires, so each turn names one more of its boxes at least.
    for turn in range(1, len(left[1])):
        for port, (beside, there) in inner.items():
            if port[0] in named and beside not in named:
                named[beside] = True
                ways.append((port, beside))
    return ways


def place_from(net, links, left, ways, box):
    """The place of a pattern of which the first box is that one, or None; links are those of the net's wires."""
    names = {0: box}
    for (own, port), beside in ways:
        there = links.get((names[own], port), (OUTER, 0))[0]
        # Most boxes are left out here, ahead of what takes longer.
        if there == OUTER or net[1][there] != left[1][beside]:
            return None
        names[beside] = there
    place = tuple(names[own] for own in range(len(left[1])))
    return place if fits(net, links, left, place) else None


def place_at(net, left, box):
    """The place of a pattern of which the first box is that box of the net, or None."""
    return place_from(net, links_of(net[2]), left, ways_of(left), box)


def places_of(net, left):
    """The list of all places of a pattern, rising."""
    links = links_of(net[2])
    ways = ways_of(left)
    # There is at most one place for each first box, so that places rise just as their first boxes do.
    firsts = [box for box, kind in enumerate(net[1]) if kind == left[1][0]]
    found = [place_from(net, links, left, ways, box) for box in firsts]
    return [place for place in found if place is not None]


def is_place(net, left, place):
    """Whether it is a place of a pattern, of anything."""
    return are_whole(place) and fits(net, links_of(net[2]), left, place)
