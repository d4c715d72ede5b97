"""A keeper of rules and nets by names [37], [38], [2]."""

import copy
import random
import unittest

from tests.samples import ANYTHING, CHAINS, EMPTY, STOCK, chain, chain_rule, net, rule, word_of
from tests.test_complete import RULES
from weave.ends import run
from weave.errors import NoDeed, NoName, NoPlace, NoRule, NoThing, TooMany, WeaveError
from weave.joins import joins
from weave.keeper import Keeper
from weave.laying import laid
from weave.places import places_of

WRONG_NAMES = tuple(thing for thing in ANYTHING if not isinstance(thing, str) or thing in ("", "+", "-")) + (
    "A", "aB", "a b", "a1", "_", "ninesigns", " a", "a ", "a\n", b"a",
)
NAMES = "abcdefghijklmnop"


def state(keeper):
    """All that a keeper tells of what stands."""
    return keeper.rules(), keeper.nets()


class KeeperTest(unittest.TestCase):
    def setUp(self):
        self.keeper = Keeper(CHAINS)

    def check_refused(self, kind, deed, *handed, name=None):
        """The deed is refused, and changes nothing."""
        before = state(self.keeper)
        with self.assertRaises(kind) as caught:
            deed(*handed)
        self.assertIs(type(caught.exception), kind)
        if kind is NoThing:
            self.assertEqual(caught.exception.name, name)
        self.assertEqual(state(self.keeper), before)

    def test_nothing_stands_at_first(self):
        self.assertEqual(state(self.keeper), ([], {}))
        self.assertEqual(self.keeper.joined()[0::2], ("joins", []))
        self.check_refused(NoDeed, self.keeper.undo)

    def test_rules_in_the_order_in_which_they_were_put(self):
        for name, left, right in (("zz", "a", "b"), ("aa", "b", "c"), ("mm", "cd", "")):
            self.assertIsNone(self.keeper.put_rule(name, chain(left), chain(right)))
        self.assertEqual(self.keeper.rules(), [
            ("zz", chain("a"), chain("b")), ("aa", chain("b"), chain("c")), ("mm", chain("cd"), chain("")),
        ])
        # One that stands is put anew where it stood; one that was dropped comes last.
        self.assertIsNone(self.keeper.put_rule("aa", chain("e"), chain("d")))
        self.assertEqual([told[0] for told in self.keeper.rules()], ["zz", "aa", "mm"])
        self.assertEqual(self.keeper.rules()[1], ("aa", chain("e"), chain("d")))
        self.assertIsNone(self.keeper.drop_rule("zz"))
        self.assertEqual([told[0] for told in self.keeper.rules()], ["aa", "mm"])
        self.keeper.put_rule("zz", chain("a"), chain("b"))
        self.assertEqual([told[0] for told in self.keeper.rules()], ["aa", "mm", "zz"])

    def test_nets(self):
        self.assertIsNone(self.keeper.put_net("main", chain("ab")))
        self.assertIsNone(self.keeper.put_net("a", EMPTY))
        self.assertEqual(self.keeper.nets(), {"main": chain("ab"), "a": EMPTY})
        self.keeper.put_net("main", chain("c"))
        self.assertEqual(self.keeper.nets(), {"main": chain("c"), "a": EMPTY})
        self.assertIsNone(self.keeper.drop_net("main"))
        self.assertEqual(self.keeper.nets(), {"a": EMPTY})

    def test_a_rule_and_a_net_by_one_name(self):
        self.keeper.put_rule("x", chain("a"), chain("b"))
        self.keeper.put_net("x", chain("a"))
        self.assertEqual(state(self.keeper), ([("x", chain("a"), chain("b"))], {"x": chain("a")}))
        self.keeper.lay("x", "x", (0,))
        self.assertEqual(self.keeper.nets(), {"x": chain("b")})
        self.keeper.drop_rule("x")
        self.assertEqual(state(self.keeper), ([], {"x": chain("b")}))
        self.check_refused(NoThing, self.keeper.drop_rule, "x", name="x")
        self.keeper.undo()
        self.keeper.drop_net("x")
        self.assertEqual(state(self.keeper), ([("x", chain("a"), chain("b"))], {}))
        self.check_refused(NoThing, self.keeper.drop_net, "x", name="x")

    def test_names(self):
        for name in ("a", "abcdefgh", "rule", "net"):
            self.keeper.put_net(name, EMPTY)
            self.keeper.put_rule(name, chain("a"), chain(""))
        for name in WRONG_NAMES:
            self.check_refused(NoName, self.keeper.put_net, name, EMPTY)
            self.check_refused(NoName, self.keeper.put_rule, name, chain("a"), chain("b"))

    def test_what_is_no_rule(self):
        for left, right in (
            (chain(""), chain("")), (chain("aaaa"), chain("a")), (chain("a"), EMPTY),
            ((chain("a")[:3] + ((("n", 1),),)), chain("a")),
        ):
            self.check_refused(NoRule, self.keeper.put_rule, "a", left, right)
        self.keeper.put_rule("a", chain("a"), chain("a"))
        self.check_refused(NoRule, self.keeper.put_rule, "a", chain(""), chain(""))

    def test_at_most_six_rules(self):
        for name in NAMES[:6]:
            self.keeper.put_rule(name, chain("a"), chain("b"))
        self.check_refused(TooMany, self.keeper.put_rule, "g", chain("a"), chain("b"))
        # One that stands may be put anew.
        self.keeper.put_rule("f", chain("c"), chain("d"))
        self.assertEqual([told[0] for told in self.keeper.rules()], list("abcdef"))
        self.assertEqual(self.keeper.rules()[5], ("f", chain("c"), chain("d")))
        self.keeper.drop_rule("a")
        self.keeper.put_rule("g", chain("a"), chain("b"))
        self.assertEqual([told[0] for told in self.keeper.rules()], list("bcdefg"))
        self.check_refused(TooMany, self.keeper.put_rule, "a", chain("a"), chain("b"))

    def test_at_most_twelve_nets(self):
        for name in NAMES[:12]:
            self.keeper.put_net(name, chain(""))
        self.check_refused(TooMany, self.keeper.put_net, "m", chain(""))
        self.keeper.put_net("l", chain("a"))
        self.keeper.put_rule("r", chain("a"), chain("b"))
        self.keeper.lay("r", "l", (0,))
        self.assertEqual((len(self.keeper.nets()), self.keeper.nets()["l"]), (12, chain("b")))
        self.keeper.drop_net("c")
        self.keeper.put_net("m", chain(""))
        self.check_refused(TooMany, self.keeper.put_net, "c", chain(""))
        # Six rules stand beside twelve nets.
        for name in NAMES[:5]:
            self.keeper.put_rule(name, chain("a"), chain("b"))
        self.check_refused(TooMany, self.keeper.put_rule, "z", chain("a"), chain("b"))

    def test_which_refusal_goes_first(self):
        for name in NAMES[:6]:
            self.keeper.put_rule(name, chain("a"), chain("b"))
        for name in NAMES[:12]:
            self.keeper.put_net(name, chain("cac"))
        self.check_refused(NoName, self.keeper.put_rule, "G", chain(""), chain(""))
        self.check_refused(NoRule, self.keeper.put_rule, "g", chain(""), chain(""))
        self.check_refused(NoName, self.keeper.put_net, "", chain(""))
        self.check_refused(NoThing, self.keeper.lay, "x", "y", (7,), name="x")
        self.check_refused(NoThing, self.keeper.lay, "a", "y", (7,), name="y")
        self.check_refused(NoPlace, self.keeper.lay, "a", "b", (7,))
        self.check_refused(NoThing, self.keeper.places, "x", "y", name="x")
        self.check_refused(NoThing, self.keeper.places, "a", "y", name="y")

    def test_what_does_not_stand(self):
        self.keeper.put_rule("r", chain("a"), chain("b"))
        self.keeper.put_net("n", chain("a"))
        for name in WRONG_NAMES + ("x", "rr", "abcdefgh"):
            self.check_refused(NoThing, self.keeper.drop_rule, name, name=name)
            self.check_refused(NoThing, self.keeper.drop_net, name, name=name)
            self.check_refused(NoThing, self.keeper.lay, name, name, (0,), name=name)
            self.check_refused(NoThing, self.keeper.lay, name, "n", (0,), name=name)
            self.check_refused(NoThing, self.keeper.lay, "r", name, (0,), name=name)
            self.check_refused(NoThing, self.keeper.places, name, name, name=name)
            self.check_refused(NoThing, self.keeper.places, name, "n", name=name)
            self.check_refused(NoThing, self.keeper.places, "r", name, name=name)
            self.check_refused(NoThing, self.keeper.rest, name, name=name)
        # A rule is no net, a net no rule.
        self.check_refused(NoThing, self.keeper.drop_rule, "n", name="n")
        self.check_refused(NoThing, self.keeper.rest, "r", name="r")

    def test_lay(self):
        self.keeper.put_rule("r", chain("a"), chain("bb"))
        self.keeper.put_net("n", chain("cac"))
        self.assertEqual(self.keeper.places("r", "n"), [(1,)])
        self.assertIsNone(self.keeper.lay("r", "n", (1,)))
        made = laid(chain("cac"), chain_rule("a", "bb"), (1,))
        self.assertEqual(self.keeper.nets(), {"n": made})
        self.assertEqual(word_of(made), "cbbc")
        for place in ((1,), (0,), (4,), (-1,), [0], (True,), (), None, "0", (0, 1), ((0,),)):
            self.check_refused(NoPlace, self.keeper.lay, "r", "n", place)
        self.keeper.undo()
        for place in (ANYTHING + ((0,), (2,), (1, 1), [1], (True,))):
            if place != (1,) or type(place[0]) is bool:
                self.check_refused(NoPlace, self.keeper.lay, "r", "n", place)

    def test_places(self):
        self.keeper.put_rule("r", chain("ab"), chain("b"))
        self.keeper.put_net("n", chain("abcab"))
        self.keeper.put_net("m", chain("ba"))
        self.assertEqual(self.keeper.places("r", "n"), places_of(chain("abcab"), chain("ab")))
        self.assertEqual(self.keeper.places("r", "n"), [(0, 1), (3, 4)])
        self.assertEqual(self.keeper.places("r", "m"), [])

    def test_rest(self):
        self.keeper.put_net("n", chain("aad"))
        self.assertEqual(self.keeper.rest("n"), (chain("aad"), []))
        self.keeper.put_rule("s", chain("b"), chain("c"))
        self.keeper.put_rule("r", chain("a"), chain("b"))
        rules = [chain_rule("b", "c"), chain_rule("a", "b")]
        self.assertEqual(self.keeper.rest("n"), run(rules, chain("aad")))
        self.assertEqual(word_of(self.keeper.rest("n")[0]), "ccd")
        # Asking is no deed.
        self.assertEqual(self.keeper.nets(), {"n": chain("aad")})
        # The order of the rules tells which comes first.
        self.keeper.drop_rule("s")
        self.keeper.put_rule("s", chain("b"), chain("c"))
        self.assertEqual(self.keeper.rest("n"), run(rules[::-1], chain("aad")))
        self.keeper.put_net("m", chain("d" * 65))
        self.check_refused(TooMany, self.keeper.rest, "m")
        self.keeper.put_rule("s", chain("b"), chain("b"))
        self.check_refused(TooMany, self.keeper.rest, "n")

    def test_joined(self):
        for at, (left, right) in enumerate(RULES):
            self.keeper.put_rule(NAMES[at], left, right)
            told = [(left, right) for _, left, right in self.keeper.rules()]
            self.assertEqual(self.keeper.joined(), joins(CHAINS, told))
        self.assertEqual(self.keeper.joined()[0], "parts")
        self.keeper.put_rule("k", chain("e"), chain("e"))
        self.assertEqual(self.keeper.joined()[0], "open")
        self.keeper.undo()
        self.keeper.drop_rule("a")
        self.assertEqual(self.keeper.joined()[0], "joins")
        self.keeper.put_rule("a", chain("a"), chain("b" * 65))
        self.keeper.put_rule("b", chain("a"), chain("b" * 65))
        self.check_refused(TooMany, self.keeper.joined)


class UndoTest(unittest.TestCase):
    def deeds(self, keeper):
        """Each kind of deed, one behind the other."""
        keeper_deeds = (
            (keeper.put_rule, "r", chain("a"), chain("b")), (keeper.put_rule, "s", chain("b"), chain("c")),
            (keeper.put_net, "n", chain("aba")), (keeper.put_rule, "r", chain("a"), chain("bb")),
            (keeper.lay, "r", "n", (0,)), (keeper.put_net, "m", chain("a")), (keeper.lay, "s", "n", (0,)),
            (keeper.drop_rule, "r"), (keeper.put_net, "n", chain("e")), (keeper.put_net, "n", chain("e")),
            (keeper.drop_net, "m"), (keeper.put_rule, "r", chain("a"), chain("b")), (keeper.drop_net, "n"),
            (keeper.drop_rule, "s"), (keeper.drop_rule, "r"),
        )
        return keeper_deeds

    def test_each_deed_is_taken_back_to_the_first(self):
        keeper = Keeper(CHAINS)
        past = [state(keeper)]
        for deed, *handed in self.deeds(keeper):
            self.assertIsNone(deed(*handed))
            past.append(state(keeper))
        while len(past) > 1:
            self.assertEqual(state(keeper), past.pop())
            self.assertIsNone(keeper.undo())
        self.assertEqual(state(keeper), ([], {}))
        for _ in range(2):
            with self.assertRaises(NoDeed):
                keeper.undo()
        self.assertEqual(state(keeper), ([], {}))

    def test_the_order_of_rules_comes_back(self):
        keeper = Keeper(CHAINS)
        for name in "abc":
            keeper.put_rule(name, chain("a"), chain("b"))
        keeper.drop_rule("a")
        keeper.put_rule("a", chain("a"), chain("b"))
        self.assertEqual([told[0] for told in keeper.rules()], ["b", "c", "a"])
        keeper.undo()
        keeper.undo()
        self.assertEqual([told[0] for told in keeper.rules()], ["a", "b", "c"])

    def test_what_was_taken_back_is_gone(self):
        keeper = Keeper(CHAINS)
        keeper.put_net("n", chain("a"))
        keeper.put_net("m", chain("b"))
        keeper.undo()
        keeper.put_net("k", chain("c"))
        self.assertEqual(keeper.nets(), {"n": chain("a"), "k": chain("c")})
        keeper.undo()
        self.assertEqual(keeper.nets(), {"n": chain("a")})
        keeper.undo()
        self.assertEqual(keeper.nets(), {})

    def test_what_is_refused_is_no_deed(self):
        keeper = Keeper(CHAINS)
        keeper.put_net("n", chain("a"))
        keeper.put_rule("r", chain("a"), chain("b"))
        for deed, *handed in (
            (keeper.put_net, "N", EMPTY), (keeper.put_rule, "s", EMPTY, EMPTY), (keeper.drop_net, "x"),
            (keeper.drop_rule, "x"), (keeper.lay, "r", "n", (1,)), (keeper.lay, "r", "x", (0,)), (keeper.rest, "x"),
            (keeper.places, "x", "n"),
        ):
            with self.assertRaises(WeaveError):
                deed(*handed)
        keeper.rules(), keeper.nets(), keeper.places("r", "n"), keeper.rest("n"), keeper.joined()
        keeper.undo()
        self.assertEqual(state(keeper), ([], {"n": chain("a")}))
        keeper.undo()
        with self.assertRaises(NoDeed):
            keeper.undo()

    def test_a_deed_that_sets_what_stood_is_one(self):
        keeper = Keeper(STOCK)
        for _ in range(3):
            keeper.put_net("n", EMPTY)
        for many in (1, 1, 0):
            keeper.undo()
            self.assertEqual(len(keeper.nets()), many)

    def test_many_deeds(self):
        keeper = Keeper(CHAINS)
        chance = random.Random(61)
        past = []
        for _ in range(300):
            before = state(keeper)
            name = chance.choice(NAMES)
            try:
                chance.choice((
                    lambda: keeper.put_net(name, chain(chance.choice(("a", "aab", "cab")))),
                    lambda: keeper.put_rule(name, chain(chance.choice(("a", "ab"))), chain("c")),
                    lambda: keeper.drop_net(name), lambda: keeper.drop_rule(name),
                    lambda: keeper.lay(name, chance.choice(NAMES), chance.choice(((0,), (0, 1), (1,)))),
                ))()
            except WeaveError:
                self.assertEqual(state(keeper), before)
            else:
                past.append(before)
            if chance.random() < 0.2 and past:
                keeper.undo()
                self.assertEqual(state(keeper), past.pop())
            self.assertLessEqual(len(keeper.rules()), 6)
            self.assertLessEqual(len(keeper.nets()), 12)
        while past:
            keeper.undo()
            told = past.pop()
            self.assertEqual(state(keeper), told)
            self.assertEqual([one[0] for one in keeper.rules()], [one[0] for one in told[0]])


class OwnTest(unittest.TestCase):
    """What is told is the asker's own, and two keepers have nothing in common."""

    def test_lists_and_dicts_that_were_told(self):
        keeper = Keeper(CHAINS)
        keeper.put_rule("r", chain("a"), chain("b"))
        keeper.put_net("n", chain("a"))
        told_rules, told_nets = state(keeper)
        again = copy.deepcopy((told_rules, told_nets))
        keeper.put_net("m", chain("b"))
        keeper.lay("r", "n", (0,))
        keeper.put_rule("s", chain("b"), chain("c"))
        keeper.drop_rule("r")
        # Nothing done later changes what was told.
        self.assertEqual((told_rules, told_nets), again)
        for _ in range(4):
            keeper.undo()
        told_rules.clear()
        told_nets["n"] = None
        told_nets["x"] = chain("c")
        keeper.places("r", "n").append(None)
        keeper.rest("n")[1].append(None)
        keeper.joined()[2].append(None)
        self.assertEqual(state(keeper), again)
        self.assertEqual(keeper.places("r", "n"), [(0,)])
        self.assertEqual(keeper.rest("n"), (chain("b"), [(0, (0,))]))
        self.assertEqual(keeper.joined()[2], [])
        # Nor does it change what is taken back.
        told = keeper.nets()
        keeper.put_net("n", chain("c"))
        told.clear()
        keeper.undo()
        self.assertEqual(state(keeper), again)

    def test_two_keepers(self):
        one, other = Keeper(CHAINS), Keeper(STOCK)
        one.put_net("n", chain("a"))
        self.assertEqual(other.nets(), {})
        with self.assertRaises(NoDeed):
            other.undo()
        other.put_rule("r", *rule("neg a b ; -n a, +n b ; -", "- ; -n a, +n a ; -"))
        other.put_net("n", net("neg a a ; - ; -"))
        other.lay("r", "n", (0,))
        self.assertEqual(other.nets(), {"n": net("- ; - ; n 1")})
        self.assertEqual(one.nets(), {"n": chain("a")})


if __name__ == "__main__":
    unittest.main()
