"""Boxes that hang together, and the parts that they make [10]."""

from weave.nets import OUTER, are_kinds, are_wires, links_of, ports_in, renamed
from weave.stock import PORTS_MOST
from weave.things import is_tuple


def boxes_beside(links, box):
    """The boxes to which the wires of a box's ports lead, in the order of the ports."""
    ends = [links[(box, port)] for port in range(PORTS_MOST) if (box, port) in links]
    return [end[0] for end in ends if end[0] != OUTER]


def numbers_from(links, start):
    """A dict of the boxes that hang together with a box, in the order of [10], with their new numbers."""
    numbers = {start: 0}
    order = [start]
    at = 0
    while at < len(order):
        beside = boxes_beside(links, order[at])
        for box in beside:
            if box not in numbers:
                numbers[box] = len(order)
                order.append(box)
        at += 1
    return numbers


def together(net):
    """The lists of boxes that hang together, each rising, in the order of their first ones."""
    links = links_of(net[2])
    groups = []
    seen = set()
    for box in range(len(net[1])):
        if box not in seen:
            group = sorted(numbers_from(links, box))
            groups.append(group)
            for member in group:
                seen.add(member)
    return groups


def part_from(boxes, wires, start):
    """The part of all that hangs together with a box, of boxes and wires that are a net's or a part's."""
    numbers = numbers_from(links_of(wires), start)
    # A wire's greater end tells: where it is a port of these boxes, the other end is one, too, or an outer.
    own = [wire for wire in wires if wire[1][0] in numbers]
    return (tuple(boxes[box] for box in numbers), renamed(own, numbers))


def part_at(net, box):
    """The part at a box of the net."""
    return part_from(net[1], net[2], box)


def parts_of(net):
    """The list of the parts at all boxes of the net."""
    return [part_at(net, box) for box in range(len(net[1]))]


def lies_at(net, part, box):
    """The naming by which a part lies at a box of the net, or None."""
    boxes, wires = part
    # Nothing but the wires tells the order of [10]: so parts that are alike are the same, set in that order.
    if part_from(boxes, wires, 0) != part_at(net, box):
        return None
    numbers = numbers_from(links_of(wires), 0)
    order = list(numbers_from(links_of(net[2]), box))
    return tuple(order[numbers[own]] for own in range(len(boxes)))


def is_part(stock, thing):
    """Whether it is a part of boxes of the stock, of anything."""
    if not is_tuple(thing, 2):
        return False
    boxes, wires = thing
    # Whether the wires join mates isn't asked: a part in which they don't lies nowhere.
    if not are_kinds(stock, boxes) or not are_wires(wires) or len(boxes) == 0:
        return False
    return has_right_ends(stock, boxes, wires) and len(numbers_from(links_of(wires), 0)) == len(boxes)


def has_right_ends(stock, boxes, wires):
    """Whether each port of the boxes stands once in the wires, outers once at most and not side by side."""
    ends = [end for wire in wires for end in wire]
    outers = [end for end in ends if end[0] == OUTER]
    if sorted(end for end in ends if end[0] != OUTER) != [end for end, spec in ports_in(stock, boxes)]:
        return False
    if len(set(outers)) != len(outers) or any(end[1] < 0 for end in outers):
        return False
    return all(wire[1][0] != OUTER for wire in wires)
