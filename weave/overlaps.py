"""Ways in which places of two rules can share boxes [20], [21]."""

from weave.nets import inner_wires, links_of
from weave.stock import PORTS_MOST
from weave.things import are_whole, is_tuple


def pairings(one, other):
    """The list of all tuples of pairs of boxes of one kind, each rising and with no box twice, the empty one first."""
    found = [()]
    for box, kind in enumerate(one[1]):
        pairs = [(box, there) for there, also in enumerate(other[1]) if also == kind]
        more = [pairing + (pair,) for pairing in found for pair in pairs if is_left_over(pairing, pair[1])]
        found = found + more
    return found


def is_left_over(pairing, there):
    """Whether a box of the other pattern stands in no pair yet."""
    return all(taken != there for own, taken in pairing)


def agrees(inner, others, pairing):
    """Whether wires that are inner ones in both patterns, told by their links, lead to the same ports of pairs."""
    for own, there in pairing:
        for port in range(PORTS_MOST):
            if (own, port) in inner and (there, port) in others:
                end, also = inner[(own, port)], others[(there, port)]
                if end[1] != also[1] or (end[0], also[0]) not in pairing:
                    return False
    return True


def sharings(one, other):
    """The list of all sharings of two patterns, rising."""
    inner, others = links_of(inner_wires(one)), links_of(inner_wires(other))
    return sorted(pairing for pairing in pairings(one, other)[1:] if agrees(inner, others, pairing))


def turned_about(sharing):
    """The sharing with each pair turned about."""
    return tuple(sorted((there, own) for own, there in sharing))


def own_sharings(left):
    """The sharings of a pattern with itself that stand in overlaps."""
    # Two places are no two where each box is paired with itself, and are the same two the other way about.
    same = tuple((box, box) for box in range(len(left[1])))
    return [sharing for sharing in sharings(left, left) if sharing != same and sharing <= turned_about(sharing)]


def sharings_between(rules, number, other):
    """The list of the sharings in overlaps of two rules, rising; the first number is no more than the other."""
    left = rules[number][0]
    return own_sharings(left) if number == other else sharings(left, rules[other][0])


def overlaps_up_to(rules, other):
    """The list of the overlaps of a rule with itself and with those ahead of it, in order."""
    found = []
    for number in range(other + 1):
        for sharing in sharings_between(rules, number, other):
            found.append((number, other, sharing))
    return found


def overlaps(rules):
    """The list of all overlaps of a list of rules, in order."""
    return [overlap for other in range(len(rules)) for overlap in overlaps_up_to(rules, other)]


def has_whole_numbers(thing):
    """Whether it is a tuple of tuples of whole numbers, of anything."""
    return isinstance(thing, tuple) and all(are_whole(pair) for pair in thing)


def is_overlap(rules, thing):
    """Whether it is an overlap of a list of rules, of anything."""
    # Numbers are asked for by themselves, as truths are the same as numbers to Python.
    if not is_tuple(thing, 3) or not are_whole(thing[:2]) or not has_whole_numbers(thing[2]):
        return False
    number, other, sharing = thing
    return 0 <= number <= other < len(rules) and sharing in sharings_between(rules, number, other)


def shared(place, other):
    """The tuple of the pairs at which two places have the same box, rising."""
    return tuple((own, there) for own, box in enumerate(place) for there, also in enumerate(other) if also == box)
