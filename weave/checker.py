"""The small checker of what joins tells [26]: it neither runs nor seeks."""

from weave.alike import is_naming
from weave.ends import at_rest
from weave.glued import outcomes
from weave.overlaps import is_overlap, overlaps
from weave.rows import led_to
from weave.things import is_tuple
from weave.unlike import shows_unlike
from weave.weights import are_times, fall_by


def ends_of_rows(stock, rules, overlap, rows, other_rows):
    """The nets to which rows, of anything, lead from both outcomes of an overlap, or None where one doesn't."""
    one, other = outcomes(stock, rules, overlap)
    end = led_to(rules, one, rows)
    other_end = led_to(rules, other, other_rows)
    return None if end is None or other_end is None else (end, other_end)


def is_meet(stock, rules, overlap, thing):
    """Whether it is a tuple (overlap, rows, rows, naming) of that overlap, of anything."""
    if not is_tuple(thing, 4):
        return False
    told, rows, other_rows, naming = thing
    # That it is the same as the overlap doesn't tell it from one with truths in the places of numbers.
    if told != overlap or not is_overlap(rules, told):
        return False
    ends = ends_of_rows(stock, rules, overlap, rows, other_rows)
    return ends is not None and is_naming(ends[0], ends[1], naming)


def lets_joins(stock, rules, weight, meets):
    """Whether a weight and meets, of anything, show that the rules join."""
    if not fall_by(stock, weight, rules) or not isinstance(meets, list):
        return False
    found = overlaps(rules)
    if len(found) != len(meets):
        return False
    return all(is_meet(stock, rules, overlap, meet) for overlap, meet in zip(found, meets))


def lets_parts(stock, rules, overlap, rows, other_rows, paper):
    """Whether an overlap, rows from both its outcomes and a paper, of anything, show that the rules part."""
    if not is_overlap(rules, overlap):
        return False
    ends = ends_of_rows(stock, rules, overlap, rows, other_rows)
    if ends is None or not all(at_rest(rules, end) for end in ends):
        return False
    return shows_unlike(stock, ends[0], ends[1], paper)


def lets_by(stock, rules, thing):
    """Whether it shows what joins tells of the rules, of anything."""
    if is_tuple(thing, 3) and thing[0] == "joins":
        return lets_joins(stock, rules, thing[1], thing[2])
    if is_tuple(thing, 5) and thing[0] == "parts":
        return lets_parts(stock, rules, thing[1], thing[2], thing[3], thing[4])
    return is_tuple(thing, 2) and thing[0] == "open" and are_times(stock, rules, thing[1])
