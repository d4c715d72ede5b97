"""Nets of a stock [6]: a net is a tuple (outers, boxes, wires, rings)."""

from weave.errors import NoNet
from weave.stock import are_specs, is_name, mate_of
from weave.things import are_whole, is_tuple, is_whole, rises

OUTER = -1


def is_end(thing):
    """Whether it is a tuple of two whole numbers, of anything."""
    return is_tuple(thing, 2) and are_whole(thing)


def is_pair(thing):
    """Whether it is a tuple of two ends, of anything."""
    return is_tuple(thing, 2) and is_end(thing[0]) and is_end(thing[1])


def are_kinds(stock, thing):
    """Whether it is a tuple of kinds of the stock, of anything."""
    # A list is asked, not a dict: things that cannot be keys are asked about, too.
    kinds = [kind for kind, ports in stock]
    return isinstance(thing, tuple) and all(kind in kinds for kind in thing)


def are_wires(thing):
    """Whether it is a tuple of pairs of ends, set and in order as wires are, of anything."""
    if not isinstance(thing, tuple) or not all(is_pair(pair) for pair in thing):
        return False
    return rises(thing) and all(one < other for one, other in thing)


def is_ring(thing):
    """Whether it is a tuple (sort, many), of anything."""
    return is_tuple(thing, 2) and is_name(thing[0]) and is_whole(thing[1]) and thing[1] >= 1


def are_rings(thing):
    """Whether it is a tuple of rings, each sort once, of anything."""
    if not isinstance(thing, tuple) or not all(is_ring(ring) for ring in thing):
        return False
    return rises([ring[0] for ring in thing])


def is_net(stock, thing):
    """Whether it is a net of the stock, of anything."""
    if not is_tuple(thing, 4):
        return False
    outers, boxes, wires, rings = thing
    if not are_specs(outers) or not are_kinds(stock, boxes):
        return False
    return are_wires(wires) and are_rings(rings) and is_joined(stock, thing)


def is_joined(stock, net):
    """Whether each end stands in just one wire, and each wire joins mates."""
    specs = dict(ends_of(stock, net))
    wires = net[2]
    if sorted(end for wire in wires for end in wire) != list(specs):
        return False
    return all(specs[one] == mate_of(specs[other]) for one, other in wires)


def ports_in(stock, boxes):
    """The tuples (end, spec) of all ports of a tuple of kinds, rising."""
    kinds = dict(stock)
    return [((box, port), spec) for box, kind in enumerate(boxes) for port, spec in enumerate(kinds[kind])]


def ends_of(stock, net):
    """The tuples (end, spec) of all ends of a net, rising."""
    outers = [((OUTER, at), spec) for at, spec in enumerate(net[0])]
    return outers + ports_in(stock, net[1])


def links_of(wires):
    """A dict that has for each end of the wires the one to which it is joined."""
    links = {}
    for one, other in wires:
        links[one] = other
        links[other] = one
    return links


def joined_to(net, end):
    """The end to which an end of the net is joined."""
    return links_of(net[2])[end]


def wire_of(one, other):
    """The wire of two ends: the lesser one first."""
    return (one, other) if one < other else (other, one)


def wires_of(pairs):
    """The wires of pairs of ends, in order."""
    return tuple(sorted(wire_of(one, other) for one, other in pairs))


def called(naming, end):
    """An end by the name that a naming has for its box; outers by themselves."""
    box, port = end
    return end if box == OUTER else (naming[box], port)


def renamed(wires, naming):
    """The wires, each end called so and each wire set anew, in order."""
    return wires_of([(called(naming, one), called(naming, other)) for one, other in wires])


def outer_wires(net):
    """The wires between two outers."""
    # The lesser end stands first, and outers are less than ports.
    return [wire for wire in net[2] if wire[1][0] == OUTER]


def inner_wires(net):
    """The wires between two ports."""
    return [wire for wire in net[2] if wire[0][0] != OUTER]


def rings_of(sorts):
    """The rings of a list of sorts, each one a ring."""
    return tuple((sort, sorts.count(sort)) for sort in sorted(set(sorts)))


def net_of(stock, outers, boxes, pairs, rings):
    """The net of four lists, of anything, or NoNet."""
    for things in (outers, boxes, pairs, rings):
        if not isinstance(things, list):
            raise NoNet("a net is made of four lists")
    if not all(is_pair(pair) for pair in pairs) or not all(is_name(sort) for sort in rings):
        raise NoNet("wires are made of pairs of ends, rings of sorts")
    net = (tuple(outers), tuple(boxes), wires_of(pairs), rings_of(rings))
    if not is_net(stock, net):
        raise NoNet("the four lists make no net")
    return net
