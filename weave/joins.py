"""Whether all rows of a list of rules end in alike nets [25]."""

from weave.alike import naming_of
from weave.ends import run
from weave.errors import TooMany
from weave.glued import outcomes
from weave.overlaps import overlaps
from weave.unlike import unlike_of
from weave.weights import weighed

OVERLAPS_MOST = 300


def both_runs(stock, rules, overlap):
    """What the runs from both outcomes of an overlap tell, the first one's first, or TooMany."""
    one, other = outcomes(stock, rules, overlap)
    return (run(rules, one), run(rules, other))


def joins(stock, rules):
    """The tuple that tells whether rules join, part or are open, or TooMany."""
    word, numbers = weighed(stock, rules)
    if word == "none":
        return ("open", numbers)
    found = overlaps(rules)
    if len(found) > OVERLAPS_MOST:
        raise TooMany("there are too many overlaps")
    meets = []
    for overlap in found:
        (end, rows), (other_end, other_rows) = both_runs(stock, rules, overlap)
        naming = naming_of(end, other_end)
        if naming is None:
            return ("parts", overlap, rows, other_rows, unlike_of(end, other_end))
        meets.append((overlap, rows, other_rows, naming))
    return ("joins", numbers, meets)
