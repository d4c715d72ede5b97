"""Roads: rules laid forth and back [17]."""

from weave.alike import is_naming
from weave.errors import NoRoad
from weave.nets import is_net
from weave.rows import is_row, net_behind, walked
from weave.things import is_tuple, itself


def is_step(stock, rules, net, thing):
    """Whether it is a step from the net so far, of anything."""
    if not is_tuple(thing, 5):
        return False
    way, number, place, told, naming = thing
    if way not in ("forth", "back") or not is_net(stock, told):
        return False
    start, end = (net, told) if way == "forth" else (told, net)
    row = (number, place)
    return is_row(rules, start, row) and is_naming(net_behind(rules, start, row), end, naming)


def road_end(stock, rules, net, road):
    """The net to which a road, a list of anything, leads, or NoRoad."""
    for at, step in enumerate(road):
        if not is_step(stock, rules, net, step):
            raise NoRoad(at)
        net = step[3]
    return net


def led_along(stock, rules, net, road):
    """The net to which a road, of anything, leads from a net, or None where it is no list of steps from it."""
    if not isinstance(road, list):
        return None
    try:
        return road_end(stock, rules, net, road)
    except NoRoad:
        return None


def road_forth(rules, net, rows):
    """The road from a net along rows."""
    nets = walked(rules, net, rows)
    return [("forth", number, place, came, itself(len(came[1]))) for (number, place), came in zip(rows, nets)]


def road_back(rules, net, rows, naming):
    """The road to a net back along rows, from a net in which the one that they make has this naming."""
    nets = [net] + walked(rules, net, rows)
    road = []
    for at in reversed(range(len(rows))):
        number, place = rows[at]
        road.append(("back", number, place, nets[at], naming))
        naming = itself(len(nets[at][1]))
    return road
