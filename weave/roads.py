"""Roads: rules laid forth and back [17]."""

from weave.alike import is_naming
from weave.errors import NoRoad
from weave.nets import is_net
from weave.rows import is_row, net_behind
from weave.things import is_tuple


def is_step(stock, rules, net, thing):
    """Whether it is a step from the net so far, of anything."""
    if not is_tuple(thing, 5):
        return False
    way, number, place, told, naming = thing
    if way not in ("forth", "back") or not is_net(stock, told):
        return False
    start, end = (net, told) if way == "forth" else (told, net)
    row = (number, place)
    return is_row(rules, start, row) and is_naming(net_behind(rules, start, row), end, naming)


def road_end(stock, rules, net, road):
    """The net to which a road, a list of anything, leads, or NoRoad."""
    for at, step in enumerate(road):
        if not is_step(stock, rules, net, step):
            raise NoRoad(at)
        net = step[3]
    return net
