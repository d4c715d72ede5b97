"""A rule laid at a place of a net [14].

The net is cut along the place and right is set in: an outer of the rule becomes a seam, which is an end of one wire
outside of the place and of one wire of right. What comes is joined by following such wires through the seams.
"""

from weave.errors import NoPlace
from weave.nets import OUTER, called, inner_wires, links_of, renamed
from weave.places import is_place

# Less than each box and outer, so that seams are none of them.
SEAM = -2


def stay_behind(net, place):
    """The list of the boxes that stay, by their old numbers."""
    return [box for box in range(len(net[1])) if box not in place]


def links_outside(net, left, place):
    """The links of the net's wires outside of the place, boxes called by new numbers, ports of the place by seams."""
    numbers = {old: new for new, old in enumerate(stay_behind(net, place))}
    # A pattern has no wire between two outers: each of them is joined to a port.
    seams = {called(place, port): (SEAM, outer[1]) for outer, port in left[2] if outer[0] == OUTER}
    inside = renamed(inner_wires(left), place)
    wires = [wire for wire in net[2] if wire not in inside]
    names = {end: seams[end] if end in seams else called(numbers, end) for wire in wires for end in wire}
    return links_of([(names[one], names[other]) for one, other in wires])


def links_of_right(right, first):
    """The links of right's wires, its boxes called by numbers from a first one on, its outers by seams."""
    numbers = {box: first + box for box in range(len(right[1]))}
    numbers[OUTER] = SEAM
    return links_of([((numbers[box], port), (numbers[there], at)) for (box, port), (there, at) in right[2]])


def end_beyond(links, others, start):
    """The end to which one comes along a wire of the links, then through seams by the others and the links by turns."""
    end = links[start]
    while end[0] == SEAM:
        links, others = others, links
        end = links[end]
    return end


def wires_through(links, others):
    """The list of the wires that lead from an end of the links, through seams, to a greater end."""
    pairs = [(end, end_beyond(links, others, end)) for end in links if end[0] != SEAM]
    return [(end, beyond) for end, beyond in pairs if end < beyond]


def round_from(outside, inside, seam):
    """The list of the seams of the round on which a seam is; none where one comes from it to an end."""
    gone = []
    end = seam
    while end[0] == SEAM and end not in gone:
        beyond = outside[end]
        gone.extend([end, beyond])
        # What is no seam has no wire inside: there the way ends.
        end = inside.get(beyond, beyond)
    return gone if end[0] == SEAM else []


def starts_round(outside, inside, seam):
    """Whether a seam is the first one of a round: so each round is counted once."""
    gone = round_from(outside, inside, seam)
    return gone != [] and min(gone) == seam


def rings_together(rings):
    """The rings of a list of tuples (sort, many), in any order, in which sorts may stand several times."""
    counts = {}
    for sort, many in rings:
        counts[sort] = counts.get(sort, 0) + many
    return tuple(sorted(counts.items()))


def laid(net, rule, place):
    """The net that a rule makes of a net, laid at a place, of anything, or NoPlace."""
    left, right = rule
    if not is_place(net, left, place):
        raise NoPlace("the rule has no such place in the net")
    stay = stay_behind(net, place)
    outside = links_outside(net, left, place)
    inside = links_of_right(right, len(stay))
    boxes = tuple(net[1][box] for box in stay) + right[1]
    wires = sorted(wires_through(outside, inside) + wires_through(inside, outside))
    rounds = [(sort, 1) for at, (sort, side) in enumerate(left[0]) if starts_round(outside, inside, (SEAM, at))]
    return (net[0], boxes, tuple(wires), rings_together(list(net[3] + right[3]) + rounds))
