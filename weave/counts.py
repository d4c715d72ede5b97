"""Counts that rules keep [34], and nets that are parted by them [35]."""

from weave.things import itself
from weave.weights import lost, weighs


def keeps(stock, count, rule):
    """Whether both sides of a rule come to the same by a count."""
    left, right = rule
    return weighs(stock, count, left) == weighs(stock, count, right)


def lost_by(stock, count, rule):
    """What a net loses by a count where a rule is laid in it."""
    return sum(lost(kind, rule) * number for (kind, ports), number in zip(stock, count))


def less_by(count, other, times):
    """A count less another one, taken so many times."""
    return tuple(number - times * there for number, there in zip(count, other))


def kept_of(stock, base, rule):
    """A base of those counts, of all that are made of a base, which a rule keeps."""
    kept = [count for count in base if lost_by(stock, count, rule) == 0]
    others = [count for count in base if lost_by(stock, count, rule) != 0]
    # As numbers are divided by turns till one is left: each turn makes the same counts of other ones.
    while len(others) > 1:
        least = min(others, key=lambda count: abs(lost_by(stock, count, rule)))
        divisor = lost_by(stock, least, rule)
        rests = []
        for count in others:
            if count != least:
                rests.append(less_by(count, least, lost_by(stock, count, rule) // divisor))
        kept.extend([count for count in rests if lost_by(stock, count, rule) == 0])
        others = [least] + [count for count in rests if lost_by(stock, count, rule) != 0]
    # No times but 0 of the last one are kept: it goes.
    return kept


def base_of(stock, rules):
    """A base of the counts that all rules keep."""
    kinds = itself(len(stock))
    base = [tuple(1 if own == kind else 0 for own in kinds) for kind in kinds]
    for rule in rules:
        base = kept_of(stock, base, rule)
    return base


def parted(stock, rules, one, other):
    """The tuple of a count that all rules keep and what two nets come to by it, unlike numbers, or None."""
    for count in base_of(stock, rules):
        numbers = (weighs(stock, count, one), weighs(stock, count, other))
        if numbers[0] != numbers[1]:
            return (count, numbers[0], numbers[1])
    return None
