"""A desk that is told rows of text and answers them [39], [40]."""

from weave.alike import naming_of
from weave.compared import compared
from weave.complete import complete
from weave.errors import NoJoin
from weave.keeper import Keeper
from weave.least import made_least
from weave.texts import read_net, show_net
from weave.weights import weighed
from weave.wording import read_place, read_row, show_overlap, show_place, show_rule, show_words

DONE = "ok"


def say_put_rule(keeper, words):
    """Puts a rule."""
    name, left_text, right_text = words
    left = read_net(keeper.stock, left_text)
    right = read_net(keeper.stock, right_text)
    keeper.put_rule(name, left, right)
    return DONE


def say_put_net(keeper, words):
    """Puts a net."""
    name, text = words
    keeper.put_net(name, read_net(keeper.stock, text))
    return DONE


def say_drop_rule(keeper, words):
    """Drops a rule."""
    keeper.drop_rule(words[0])
    return DONE


def say_drop_net(keeper, words):
    """Drops a net."""
    keeper.drop_net(words[0])
    return DONE


def say_lay(keeper, words):
    """Lays a rule in a net."""
    rule, net, place = words
    keeper.lay(rule, net, read_place(place))
    return DONE


def say_undo(keeper, words):
    """Takes the last deed back."""
    keeper.undo()
    return DONE


def rule_names(keeper):
    """The list of the rules' names, in order."""
    return [name for name, left, right in keeper.rules()]


def say_rules(keeper, words):
    """The rules' names."""
    return show_words(rule_names(keeper))


def say_nets(keeper, words):
    """The nets' names."""
    return show_words(sorted(keeper.nets()))


def say_show_rule(keeper, words):
    """A rule as a text."""
    return show_rule(keeper.rule_called(words[0]))


def say_show_net(keeper, words):
    """A net as a text."""
    return show_net(keeper.net_called(words[0]))


def say_places(keeper, words):
    """The places of a rule in a net."""
    rule, net = words
    return show_words([show_place(place) for place in keeper.places(rule, net)])


def say_rest(keeper, words):
    """The net at rest to which a net runs."""
    end, rows = keeper.rest(words[0])
    return show_net(end)


def say_joins(keeper, words):
    """Whether the rules join."""
    told = keeper.joined()
    return show_overlap("parts", rule_names(keeper), told[1]) if told[0] == "parts" else told[0]


def say_complete(keeper, words):
    """How the rules are made complete."""
    rules = keeper.rule_list()
    word, weight = weighed(keeper.stock, rules)
    if word == "none":
        return "open"
    told = complete(keeper.stock, rules, weight, int(words[0]))
    if told[0] == "stuck":
        return show_overlap("stuck", rule_names(keeper), told[3])
    return " ".join([told[0], str(len(told[1]))])


def say_least(keeper, words):
    """How many rules a least list has."""
    try:
        told = made_least(keeper.stock, keeper.rule_list())
    except NoJoin:
        return say_joins(keeper, [])
    return str(len(told[1]))


def say_alike(keeper, words):
    """Whether two nets are alike."""
    one, other = [keeper.net_called(name) for name in words]
    return "unlike" if naming_of(one, other) is None else "alike"


def say_same(keeper, words):
    """Whether two nets are one by the rules."""
    one, other = [keeper.net_called(name) for name in words]
    try:
        told = compared(keeper.stock, keeper.rule_list(), one, other)
    except NoJoin:
        return say_joins(keeper, [])
    return told[0]


ANSWERS = {
    "rule NAME TEXT => TEXT": say_put_rule,
    "net NAME TEXT": say_put_net,
    "drop rule NAME": say_drop_rule,
    "drop net NAME": say_drop_net,
    "lay RULE NET PLACE": say_lay,
    "undo": say_undo,
    "rules": say_rules,
    "nets": say_nets,
    "show rule NAME": say_show_rule,
    "show net NAME": say_show_net,
    "places RULE NET": say_places,
    "rest NET": say_rest,
    "joins": say_joins,
    "complete MOST": say_complete,
    "least": say_least,
    "alike NET NET": say_alike,
    "same NET NET": say_same,
}


class Desk:
    """Rules and nets of a stock, put and asked about by rows of text."""

    def __init__(self, stock):
        self.keeper = Keeper(stock)

    def say(self, row):
        """The answer to a row, or a refusal."""
        form, words = read_row(list(ANSWERS), row)
        answer = ANSWERS[form]
        return answer(self.keeper, words)
