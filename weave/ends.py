"""Nets at rest, and runs to rest [24]."""

from weave.errors import TooMany
from weave.places import places_of
from weave.rows import net_behind

ROWS_MOST = 100
BOXES_MOST = 64


def first_row(rules, net):
    """The row of the first rule that has a place, at the first of its places, or None."""
    for number, (left, right) in enumerate(rules):
        places = places_of(net, left)
        if places:
            return (number, places[0])
    return None


def at_rest(rules, net):
    """Whether no rule has a place in a net."""
    return first_row(rules, net) is None


def row_onward(rules, net, gone):
    """The row that a run goes on with behind so many others, None where the net is at rest, or TooMany."""
    if len(net[1]) > BOXES_MOST:
        raise TooMany("a net of the run has too many boxes")
    row = first_row(rules, net)
    if row is not None and gone >= ROWS_MOST:
        raise TooMany("the run has too many rows")
    return row


def run(rules, net):
    """The net at rest to which a run leads, and the list of its rows, or TooMany."""
    rows = []
    row = row_onward(rules, net, 0)
    while row is not None:
        net = net_behind(rules, net, row)
        rows.append(row)
        row = row_onward(rules, net, len(rows))
    return (net, rows)
