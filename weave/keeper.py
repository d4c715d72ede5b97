"""A keeper of rules and nets by names [37], [38]."""

from weave.ends import run
from weave.errors import NoDeed, NoName, NoThing, TooMany
from weave.joins import joins
from weave.laying import laid
from weave.places import places_of
from weave.rules import rule_of
from weave.stock import is_name

RULES_MOST = 6
NETS_MOST = 12


def check_name(name):
    """Refuses what is no name with NoName."""
    if not is_name(name):
        raise NoName("a name has one to eight small letters")


def thing_of(things, name):
    """The thing that stands by a name, of anything, or NoThing."""
    # What is no name may be no key, either.
    if not is_name(name) or name not in things:
        raise NoThing(name)
    return things[name]


def with_thing(things, name, thing, most):
    """A dict of the things in which one stands by a name, in the place of the one that had it, or TooMany."""
    if name not in things and len(things) >= most:
        raise TooMany("too many of them stand")
    more = dict(things)
    more[name] = thing
    return more


def without_thing(things, name):
    """A dict of the things without the one that stands by a name, of anything, or NoThing."""
    thing_of(things, name)
    return {own: things[own] for own in things if own != name}


class Keeper:
    """Rules and nets of a stock, and what stood ahead of each deed."""

    def __init__(self, stock):
        self.stock = stock
        # Each deed sets new dicts in the place of these and changes none: so what stood once can stand again.
        self.kept_rules = {}
        self.kept_nets = {}
        self.past = []

    def set_anew(self, kept_rules, kept_nets):
        """Does a deed: these stand then."""
        self.past.append((self.kept_rules, self.kept_nets))
        self.kept_rules = kept_rules
        self.kept_nets = kept_nets

    def put_rule(self, name, left, right):
        """Puts a rule by a name, or NoName, NoRule, TooMany."""
        check_name(name)
        rule = rule_of(left, right)
        self.set_anew(with_thing(self.kept_rules, name, rule, RULES_MOST), self.kept_nets)

    def drop_rule(self, name):
        """Drops a rule, or NoThing."""
        self.set_anew(without_thing(self.kept_rules, name), self.kept_nets)

    def put_net(self, name, net):
        """Puts a net by a name, or NoName, TooMany."""
        check_name(name)
        self.set_anew(self.kept_rules, with_thing(self.kept_nets, name, net, NETS_MOST))

    def drop_net(self, name):
        """Drops a net, or NoThing."""
        self.set_anew(self.kept_rules, without_thing(self.kept_nets, name))

    def lay(self, rule, net, place):
        """Lays a rule in a net at a place, of anything, or NoThing, NoPlace."""
        told_rule = self.rule_called(rule)
        made = laid(self.net_called(net), told_rule, place)
        self.set_anew(self.kept_rules, with_thing(self.kept_nets, net, made, NETS_MOST))

    def undo(self):
        """Takes the last deed back, or NoDeed."""
        if not self.past:
            raise NoDeed("there is no deed to take back")
        self.kept_rules, self.kept_nets = self.past.pop()

    def rules(self):
        """The list of tuples (name, left, right), in order."""
        return [(name, left, right) for name, (left, right) in self.kept_rules.items()]

    def nets(self):
        """A dict of the nets by their names."""
        return dict(self.kept_nets)

    def places(self, rule, net):
        """The list of the places of a rule in a net, or NoThing."""
        left, right = self.rule_called(rule)
        return places_of(self.net_called(net), left)

    def rest(self, net):
        """What run tells of the rules and a net, or NoThing, TooMany."""
        return run(self.rule_list(), self.net_called(net))

    def joined(self):
        """What joins tells of the rules, or TooMany."""
        return joins(self.stock, self.rule_list())

    def rule_called(self, name):
        """The rule of a name, of anything, or NoThing."""
        return thing_of(self.kept_rules, name)

    def net_called(self, name):
        """The net of a name, of anything, or NoThing."""
        return thing_of(self.kept_nets, name)

    def rule_list(self):
        """The list of the rules, in order, without their names."""
        return list(self.kept_rules.values())
