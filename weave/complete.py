"""Rules made complete [28]: where two ends are unlike, a rule is added from the heavier one to the lighter one."""

from weave.alike import naming_of
from weave.errors import NoFall, TooMany
from weave.glued import glued
from weave.joins import OVERLAPS_MOST, both_runs
from weave.overlaps import overlaps_up_to
from weave.roads import road_back, road_forth
from weave.rows import led_to
from weave.rules import is_pattern
from weave.things import itself
from weave.unlike import unlike_of
from weave.weights import fall_by, weighs


def rule_between(stock, weight, end, other_end):
    """The rule from the heavier one of two ends to the other, or None where that makes none."""
    heavy, heavy_other = weighs(stock, weight, end), weighs(stock, weight, other_end)
    if heavy == heavy_other:
        return None
    left, right = (end, other_end) if heavy > heavy_other else (other_end, end)
    return (left, right) if is_pattern(left) else None


def road_across(stock, rules, meeting, from_first):
    """The road from the first end of a meeting, or from the second, back to the overlap's net and forth to the other.

    A meeting is a tuple (overlap, rows, rows) of the runs from both outcomes.
    """
    (number, other, sharing), rows, other_rows = meeting
    net, place, other_place = glued(stock, rules, meeting[0])
    way, other_way = [(number, place)] + rows, [(other, other_place)] + other_rows
    back, forth = (way, other_way) if from_first else (other_way, way)
    many = len(led_to(rules, net, back)[1])
    return road_back(rules, net, back, itself(many)) + road_forth(rules, net, forth)


def meet_by_last(rules, meeting, from_first):
    """The meet of a meeting whose ends the last one of the rules joins, from the first one or from the second."""
    overlap, rows, other_rows = meeting
    left, right = rules[-1]
    row = (len(rules) - 1, itself(len(left[1])))
    # Laid over all of its left, a rule makes its right, box by box.
    naming = itself(len(right[1]))
    if from_first:
        return (overlap, rows + [row], other_rows, naming)
    return (overlap, rows, other_rows + [row], naming)


def complete(stock, rules, weight, most):
    """The tuple that tells how rules are made complete by a weight, or NoFall, TooMany."""
    if not fall_by(stock, weight, rules):
        raise NoFall("some rule doesn't fall by the weight")
    grown, roads, meets = list(rules), [], []
    turn = gone = 0
    while turn < len(grown):
        found = overlaps_up_to(grown, turn)
        gone += len(found)
        if gone > OVERLAPS_MOST:
            raise TooMany("there are too many overlaps")
        for overlap in found:
            (end, rows), (other_end, other_rows) = both_runs(stock, grown, overlap)
            meeting = (overlap, rows, other_rows)
            naming = naming_of(end, other_end)
            if naming is not None:
                meets.append(meeting + (naming,))
                continue
            rule = rule_between(stock, weight, end, other_end)
            if rule is None or len(roads) >= most:
                word = "stuck" if rule is None else "more"
                return (word, grown[len(rules):], roads) + meeting + (unlike_of(end, other_end),)
            from_first = rule[0] == end
            roads.append(road_across(stock, grown, meeting, from_first))
            grown.append(rule)
            meets.append(meet_by_last(grown, meeting, from_first))
        turn += 1
    return ("complete", grown[len(rules):], roads, meets)
