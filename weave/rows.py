"""Rows of rules and places: walked one by one [15], and two of them in either order [16]."""

from weave.errors import NoRow, Shared
from weave.laying import laid
from weave.places import is_place
from weave.things import is_tuple, is_whole


def is_row(rules, net, thing):
    """Whether it is a tuple (number, place) of a rule that has that place in the net, of anything."""
    if not is_tuple(thing, 2) or not is_whole(thing[0]) or not 0 <= thing[0] < len(rules):
        return False
    return is_place(net, rules[thing[0]][0], thing[1])


def net_behind(rules, net, row):
    """The net that a row makes of a net."""
    number, place = row
    return laid(net, rules[number], place)


def walked(rules, net, rows):
    """The list of the nets that come, one behind each row of a list of anything, or NoRow."""
    nets = []
    for at, row in enumerate(rows):
        if not is_row(rules, net, row):
            raise NoRow(at)
        net = net_behind(rules, net, row)
        nets.append(net)
    return nets


def led_to(rules, net, rows):
    """The net to which rows, of anything, lead from a net, or None where they are no list of rows from it."""
    if not isinstance(rows, list):
        return None
    try:
        nets = walked(rules, net, rows)
    except NoRow:
        return None
    return nets[-1] if nets else net


def moved(row, gone):
    """The row with its boxes called by their numbers where those of another place are gone."""
    number, place = row
    return (number, tuple(box - len([less for less in gone if less < box]) for box in place))


def exchanged(stay, one, other):
    """The naming of boxes that stay, then so many of one's and of other's, where other's come ahead of one's."""
    last = stay + other + one
    return tuple(range(stay)) + tuple(range(stay + other, last)) + tuple(range(stay, stay + other))


def both_ways(rules, net, one, other):
    """The nets that come of two rows, of anything, in either order, and a naming of the first, or NoRow, Shared."""
    for at, row in enumerate((one, other)):
        if not is_row(rules, net, row):
            raise NoRow(at)
    if any(box in other[1] for box in one[1]):
        raise Shared("the places have a box in common")
    first = walked(rules, net, [one, moved(other, one[1])])[-1]
    second = walked(rules, net, [other, moved(one, other[1])])[-1]
    stay = len(net[1]) - len(one[1]) - len(other[1])
    right, other_right = rules[one[0]][1], rules[other[0]][1]
    return (first, second, exchanged(stay, len(right[1]), len(other_right[1])))
