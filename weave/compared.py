"""Two nets compared by rules that join [36]."""

from weave.alike import is_naming, naming_of
from weave.ends import at_rest, run
from weave.errors import NoJoin
from weave.joins import joins
from weave.roads import led_along, road_back, road_forth
from weave.rows import led_to
from weave.things import is_tuple
from weave.unlike import shows_unlike, unlike_of


def compared(stock, rules, one, other):
    """The tuple of a road from the one net to the other, or of rows to unlike nets at rest, or NoJoin, TooMany."""
    if joins(stock, rules)[0] != "joins":
        raise NoJoin("the rules aren't told to join")
    end, rows = run(rules, one)
    other_end, other_rows = run(rules, other)
    naming = naming_of(other_end, end)
    if naming is None:
        return ("two", rows, other_rows, unlike_of(end, other_end))
    road = road_forth(rules, one, rows) + road_back(rules, other, other_rows, naming)
    # Only where there are no rows back is the last net another one than the other net.
    last = road[-1][3] if road else one
    return ("one", road, naming_of(last, other))


def shows_one(stock, rules, one, other, road, naming):
    """Whether a road leads from the one net to one that is alike to the other by a naming, both of anything."""
    last = led_along(stock, rules, one, road)
    return last is not None and is_naming(last, other, naming)


def shows_two(stock, rules, one, other, thing):
    """Whether a tuple ("two", rows, rows, paper), of anything, leads both nets to unlike nets at rest."""
    word, rows, other_rows, paper = thing
    end = led_to(rules, one, rows)
    other_end = led_to(rules, other, other_rows)
    if end is None or other_end is None or not at_rest(rules, end) or not at_rest(rules, other_end):
        return False
    return shows_unlike(stock, end, other_end, paper)


def shows_compared(stock, rules, one, other, thing):
    """Whether it is a tuple as compared tells it, of anything; that the rules join isn't asked."""
    if is_tuple(thing, 3) and thing[0] == "one":
        return shows_one(stock, rules, one, other, thing[1], thing[2])
    return is_tuple(thing, 4) and thing[0] == "two" and shows_two(stock, rules, one, other, thing)
