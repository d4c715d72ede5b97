"""Patterns and rules [12]."""

from weave.errors import NoRule
from weave.nets import is_net, outer_wires
from weave.parts import together
from weave.things import is_tuple

PATTERN_MOST = 3


def is_pattern(net):
    """Whether a net may be the left of a rule."""
    if not 1 <= len(net[1]) <= PATTERN_MOST or len(together(net)) != 1:
        return False
    return net[3] == () and outer_wires(net) == []


def makes_rule(left, right):
    """Whether two nets are the left and the right of a rule."""
    return is_pattern(left) and left[0] == right[0]


def is_rule(stock, thing):
    """Whether it is a rule of the stock, of anything."""
    if not is_tuple(thing, 2):
        return False
    left, right = thing
    return is_net(stock, left) and is_net(stock, right) and makes_rule(left, right)


def rule_of(left, right):
    """The rule of two nets, or NoRule."""
    if not makes_rule(left, right):
        raise NoRule("left is no pattern, or right has other outers")
    return (left, right)
