"""Least lists of rules [31]."""

from weave.alike import is_naming, naming_of
from weave.ends import at_rest, run
from weave.errors import NoJoin
from weave.joins import joins
from weave.places import places_of
from weave.rows import led_to
from weave.rules import is_rule
from weave.things import is_tuple, is_whole


def has_place(net, left):
    """Whether a pattern has a place in a net."""
    return places_of(net, left) != []


def is_least(rules):
    """Whether no left has a place of another one, and no right one of any."""
    for number, (left, right) in enumerate(rules):
        if not at_rest(rules, right) or not at_rest(rules[:number] + rules[number + 1:], left):
            return False
    return True


def is_needed(rules, number):
    """Whether no other left has a place in that one of a rule; of those that lie in one another, only the first."""
    left = rules[number][0]
    for at, (other, right) in enumerate(rules):
        if at != number and has_place(left, other) and (at < number or not has_place(other, left)):
            return False
    return True


def out_of(rules, rule):
    """The rows from both sides of a rule to rest, and a naming by which the ends are alike, or TooMany."""
    left, right = rule
    end, rows = run(rules, left)
    other_end, other_rows = run(rules, right)
    return (rows, other_rows, naming_of(end, other_end))


def made_least(stock, rules):
    """The tuple that tells a least list of rules that join, or NoJoin, TooMany."""
    if joins(stock, rules)[0] != "joins":
        raise NoJoin("the rules aren't told to join")
    told = []
    kept = []
    for number, (left, right) in enumerate(rules):
        if is_needed(rules, number):
            end, rows = run(rules, right)
            told.append((left, end))
            kept.append((number, rows))
    return ("least", told, kept, [out_of(told, rule) for rule in rules])


def is_kept(rules, rule, thing):
    """Whether it is a tuple (number, rows) that tells of which of the rules a rule is kept, of anything."""
    if not is_tuple(thing, 2) or not is_whole(thing[0]) or not 0 <= thing[0] < len(rules):
        return False
    number, rows = thing
    left, right = rules[number]
    return rule == (left, led_to(rules, right, rows))


def is_out(rules, rule, thing):
    """Whether it is a tuple (rows, rows, naming) that leads both sides of a rule to alike nets, of anything."""
    if not is_tuple(thing, 3):
        return False
    rows, other_rows, naming = thing
    left, right = rule
    end = led_to(rules, left, rows)
    other_end = led_to(rules, right, other_rows)
    return end is not None and other_end is not None and is_naming(end, other_end, naming)


def are_many(thing, many):
    """Whether it is a list of so many things, of anything."""
    return isinstance(thing, list) and len(thing) == many


def shows_least(stock, rules, thing):
    """Whether it is a tuple as made_least tells it, of anything; that the rules join isn't asked."""
    if not is_tuple(thing, 4) or thing[0] != "least":
        return False
    word, told, kept, outs = thing
    if not isinstance(told, list) or not all(is_rule(stock, rule) for rule in told) or not is_least(told):
        return False
    if not are_many(kept, len(told)) or not are_many(outs, len(rules)):
        return False
    if not all(is_kept(rules, rule, also) for rule, also in zip(told, kept)):
        return False
    return all(is_out(told, rule, out) for rule, out in zip(rules, outs))
