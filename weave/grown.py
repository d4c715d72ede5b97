"""The checker of what complete tells [30]."""

from weave.alike import naming_of
from weave.checker import ends_of_rows, lets_by
from weave.complete import rule_between
from weave.ends import at_rest
from weave.roads import led_along
from weave.rules import is_rule
from weave.things import is_tuple
from weave.weights import fall_by, falls


def is_added(stock, rules, weight, thing):
    """Whether it is a rule that may be added behind the rules, of anything."""
    if not is_rule(stock, thing) or not falls(stock, weight, thing):
        return False
    left, right = thing
    return at_rest(rules, left) and at_rest(rules, right)


def is_own_road(stock, rules, rule, thing):
    """Whether it is a road by the rules from the left of a rule to a net alike to its right, of anything."""
    left, right = rule
    end = led_along(stock, rules, left, thing)
    return end is not None and naming_of(end, right) is not None


def are_added(stock, rules, weight, added, roads):
    """Whether these are lists of rules that may be added, one behind the other, and of their roads, of anything."""
    if not isinstance(added, list) or not isinstance(roads, list) or len(added) != len(roads):
        return False
    ahead = list(rules)
    for rule, road in zip(added, roads):
        if not is_added(stock, ahead, weight, rule) or not is_own_road(stock, ahead, rule, road):
            return False
        ahead.append(rule)
    return True


def rule_left_out(stock, rules, weight, thing):
    """The rule between the ends of a tuple (word, added, roads, overlap, rows, rows, paper), or None."""
    ends = ends_of_rows(stock, rules, thing[3], thing[4], thing[5])
    return rule_between(stock, weight, ends[0], ends[1])


def lets_grown(stock, rules, weight, most, thing):
    """Whether it shows what complete tells of the rules, the weight and the most, of anything."""
    whole = is_tuple(thing, 4) and thing[0] == "complete"
    broken = is_tuple(thing, 7) and thing[0] in ("stuck", "more")
    if not (whole or broken) or not fall_by(stock, weight, rules):
        return False
    added, roads = thing[1], thing[2]
    if not are_added(stock, rules, weight, added, roads) or len(added) > most:
        return False
    grown = rules + added
    if whole:
        return lets_by(stock, grown, ("joins", weight, thing[3]))
    if not lets_by(stock, grown, ("parts",) + thing[3:]):
        return False
    if rule_left_out(stock, grown, weight, thing) is None:
        return thing[0] == "stuck"
    return thing[0] == "more" and len(added) == most
