"""Two nets compared by rules that join [36], [3]."""

import copy
import itertools
import random
import unittest

from tests.samples import (
    ANYTHING, CHAINS, DEEP, EMPTY, STOCK, THROUGH, bends, chain, chain_rule, net, net_with_outers, pattern_in, rule,
    shuffled, some_full_net, some_net,
)
from tests.test_complete import ADDED, RULES, end_of
from weave.alike import is_naming, naming_of
from weave.compared import compared, shows_compared
from weave.counts import parted
from weave.ends import at_rest, run
from weave.errors import NoJoin, TooMany
from weave.joins import joins
from weave.laying import laid
from weave.places import places_of
from weave.roads import road_end
from weave.unlike import shows_unlike

NEG = "neg a b ; -n a, +n b ; -"
WIRE = "- ; -n a, +n a ; -"
VANISH = rule(NEG, WIRE)
UNDO = rule("neg a b, neg b c ; -n a, +n c ; -", WIRE)
BREAK = rule(NEG, "one a, cut b ; -n a, +n b ; -")
KEEP = rule(NEG, "neg a b ; -n a, +n b ; n 1")

# a makes b and b makes c.
STEPS = [chain_rule("a", "b"), chain_rule("b", "c")]
# From ad forth to bd and to cd: what a rule makes stands behind d.
FORTH = [
    ("forth", 0, (0,), shuffled(chain("bd"), (1, 0)), (0, 1)), ("forth", 1, (1,), shuffled(chain("cd"), (1, 0)), (0, 1)),
]
ONE = ("one", FORTH, (1, 0))
ROWS = [(0, (0,)), (1, (1,))]
C_D = ("part", (("c", "d"), (((-1, 0), (0, 0)), ((-1, 1), (1, 1)), ((0, 1), (1, 0)))), 1, 0)
TWO = ("two", ROWS, [(1, (1,))], C_D)


class ComparedTest(unittest.TestCase):
    def check_one(self, stock, rules, one, other, steps):
        """A road of so many steps, or of any where this is None."""
        for first, second in ((one, other), (other, one)):
            told = compared(stock, rules, first, second)
            self.assertEqual((told[0], len(told)), ("one", 3))
            self.assertIsInstance(told[1], list)
            self.assertTrue(is_naming(road_end(stock, rules, first, told[1]), second, told[2]))
            self.assertIs(shows_compared(stock, rules, first, second, told), True)
            if steps is not None:
                self.assertEqual(len(told[1]), steps)

    def check_two(self, stock, rules, one, other):
        for first, second in ((one, other), (other, one)):
            told = compared(stock, rules, first, second)
            self.assertEqual((told[0], len(told)), ("two", 4))
            for rows in told[1:3]:
                self.assertIsInstance(rows, list)
            ends = end_of(rules, first, told[1]), end_of(rules, second, told[2])
            self.assertTrue(at_rest(rules, ends[0]) and at_rest(rules, ends[1]))
            self.assertIs(shows_unlike(stock, ends[0], ends[1], told[3]), True)
            self.assertIs(shows_compared(stock, rules, first, second, told), True)

    def check_refused(self, kind, stock, rules, one, other):
        for first, second in ((one, other), (other, one)):
            with self.assertRaises(kind):
                compared(stock, rules, first, second)

    def test_alike(self):
        self.check_one(CHAINS, [], chain("ab"), chain("ab"), 0)
        self.check_one(CHAINS, [], chain("ab"), shuffled(chain("ab"), (1, 0)), 0)
        self.check_one(CHAINS, STEPS, chain("cdc"), shuffled(chain("cdc"), (2, 0, 1)), 0)
        self.check_one(STOCK, [VANISH], EMPTY, EMPTY, 0)
        # Alike, but not at rest.
        self.check_one(CHAINS, STEPS, chain("ad"), shuffled(chain("ad"), (1, 0)), None)

    def test_led_on(self):
        self.check_one(CHAINS, STEPS, chain("ad"), chain("cd"), 2)
        self.check_one(CHAINS, STEPS, chain("ad"), shuffled(chain("cd"), (1, 0)), 2)
        self.check_one(CHAINS, STEPS, chain("bb"), chain("cc"), 2)
        self.check_one(STOCK, [UNDO], net("neg a b, neg b c ; -n a, +n c ; -"), net(WIRE), 1)

    def test_back_and_forth(self):
        self.check_one(CHAINS, STEPS, chain("ad"), chain("bd"), 3)
        self.check_one(CHAINS, STEPS, chain("aba"), shuffled(chain("bac"), (2, 0, 1)), 8)
        self.check_one(CHAINS, RULES + ADDED, chain("aba"), chain("cca"), None)
        self.check_one(STOCK, [UNDO], net("neg a b, neg b a ; - ; -"), net("neg a b, neg b c, neg c d, neg d a ; - ; -"), 3)

    def test_two(self):
        self.check_two(CHAINS, [], chain("ab"), chain("ba"))
        self.check_two(CHAINS, STEPS, chain("ad"), chain("db"))
        self.check_two(CHAINS, STEPS, chain("a"), chain("cc"))
        self.check_two(STOCK, [UNDO], net(NEG), net(WIRE))
        # Rings tell them apart.
        self.check_two(STOCK, [UNDO], net("neg a b, neg b a ; - ; -"), EMPTY)
        self.check_one(STOCK, [UNDO], net("neg a b, neg b a ; - ; -"), net("- ; - ; n 1"), 1)

    def test_unlike_outers(self):
        self.check_two(STOCK, [VANISH], THROUGH, EMPTY)
        self.check_two(STOCK, [VANISH], THROUGH, net(WIRE))
        self.check_two(STOCK, [VANISH], net(NEG), net("- ; - ; n 1"))
        self.check_two(STOCK, [], net("one a ; -n a ; -"), net("one a, one b ; -n a, -n b ; -"))

    def test_rules_that_are_not_told_to_join(self):
        for rules in ([VANISH, BREAK], [UNDO, BREAK], [KEEP]):
            self.check_refused(NoJoin, STOCK, rules, EMPTY, EMPTY)
            self.check_refused(NoJoin, STOCK, rules, net(NEG), net(WIRE))

    def test_runs_that_are_refused(self):
        crowd = chain_rule("a", "b" * 65)
        # A run that joins comes to.
        self.check_refused(TooMany, CHAINS, [crowd, crowd], chain("c"), chain("c"))
        self.check_one(CHAINS, [crowd], chain("c"), chain("c"), 0)
        # The runs from the nets.
        self.check_refused(TooMany, CHAINS, [crowd], chain("c"), chain("a"))
        self.check_refused(TooMany, CHAINS, [], chain("a"), chain("a" * 65))
        self.check_refused(TooMany, CHAINS, [], chain("a" * 65), chain("a" * 65))
        self.check_one(CHAINS, [], chain("a" * 64), chain("a" * 64), 0)
        self.check_refused(TooMany, CHAINS, STEPS, chain("a" * 51), chain("a"))
        self.check_one(CHAINS, STEPS, chain("a" * 50), chain("b" * 50), 150)
        self.check_one(CHAINS, STEPS, chain("a" * 50), shuffled(chain("a" * 50), tuple(range(49, -1, -1))), 200)
        # NoJoin goes first.
        self.check_refused(NoJoin, CHAINS, [chain_rule("c", "d"), chain_rule("c", "e")], chain("a" * 65), chain("a"))

    def test_nothing_is_changed_and_all_lists_are_the_askers_own(self):
        rules = list(STEPS)
        for one, other in ((chain("ad"), chain("bd")), (chain("ad"), chain("db"))):
            told = compared(CHAINS, rules, one, other)
            again = copy.deepcopy(told)
            told[1].clear()
            if told[0] == "two":
                told[2].append(None)
            self.assertEqual(compared(CHAINS, rules, one, other), again)
        self.assertEqual(rules, STEPS)

    def test_by_chance(self):
        chance = random.Random(53)
        words = {"one": 0, "two": 0}
        for _ in range(150):
            start = some_full_net(chance, 5)
            rules = []
            for _ in range(chance.randint(1, 2)):
                left = pattern_in(chance, start)[0]
                rules.append((left, net_with_outers(chance, left[0], chance.choice((0, 0, 1)))))
            if joins(STOCK, rules)[0] != "joins":
                continue
            for other in (self.walk(chance, rules, start), some_net(chance, 5)):
                told = compared(STOCK, rules, start, other)
                words[told[0]] += 1
                self.assertIs(shows_compared(STOCK, rules, start, other, told), True)
                alike = naming_of(run(rules, start)[0], run(rules, other)[0]) is not None
                self.assertEqual(told[0], "one" if alike else "two")
                if parted(STOCK, rules, start, other) is not None:
                    self.assertEqual(told[0], "two")
        self.assertGreater(min(words.values()), 20)

    def walk(self, chance, rules, told):
        """A net to which a few rows lead, its boxes in another order."""
        for _ in range(3):
            rows = [(one, place) for one in rules for place in places_of(told, one[0])]
            if rows:
                told = laid(told, *chance.choice(rows))
        return shuffled(told, chance.sample(range(len(told[1])), len(told[1])))


class ShowsComparedTest(unittest.TestCase):
    def check(self, expected, rules, one, other, thing, stock=CHAINS):
        self.assertIs(shows_compared(stock, rules, one, other, thing), expected, thing)

    def test_the_samples(self):
        self.check(True, STEPS, chain("ad"), chain("cd"), ONE)
        self.check(True, STEPS, chain("ad"), chain("db"), TWO)

    def test_one(self):
        self.check(True, [], chain("ab"), chain("ab"), ("one", [], (0, 1)))
        self.check(True, [], EMPTY, EMPTY, ("one", [], ()), STOCK)
        # Not the naming, not the net, not its outers.
        self.check(False, [], chain("ab"), chain("ab"), ("one", [], (1, 0)))
        self.check(False, STEPS, chain("ad"), chain("cd"), ("one", FORTH, (0, 1)))
        self.check(False, STEPS, chain("ad"), chain("bd"), ONE)
        self.check(False, STEPS, chain("ad"), chain("dc"), ONE)
        self.check(False, STEPS, chain("bd"), chain("cd"), ONE)
        self.check(False, [], THROUGH, net(WIRE), ("one", [], ()), STOCK)
        # The last net need not be at rest, nor the road be short.
        self.check(True, STEPS, chain("ad"), chain("bd"), ("one", FORTH[:1], (1, 0)))
        there = [("back", 1, (1,), FORTH[0][3], (0, 1)), FORTH[1]]
        self.check(True, STEPS, chain("ad"), chain("cd"), ("one", FORTH + there, (1, 0)))
        self.check(True, STEPS, chain("ad"), chain("cd"), ("one", FORTH + there + there, (1, 0)))
        self.check(False, STEPS, chain("ad"), chain("cd"), ("one", FORTH + there[:1], (1, 0)))

    def test_back(self):
        # From cd back to bd and to ad; the boxes of what is made stand the other way about.
        road = [("back", 1, (0,), chain("bd"), (1, 0)), ("back", 0, (0,), chain("ad"), (1, 0))]
        self.check(True, STEPS, chain("cd"), chain("ad"), ("one", road, (0, 1)))
        for naming in ((0, 1), (1,), [1, 0], (True, False)):
            bent = [road[0][:4] + (naming,), road[1]]
            self.check(False, STEPS, chain("cd"), chain("ad"), ("one", bent, (0, 1)))

    def test_two(self):
        self.check(True, [], chain("a"), chain("b"), ("two", [], [], ("part", (("a",), chain("a")[2]), 1, 0)))
        # Not at rest, on either side.
        self.check(False, STEPS, chain("ad"), chain("db"), ("two", ROWS[:1], [(1, (1,))], C_D))
        paper = ("part", C_D[1], 0, 1)
        self.check(True, STEPS, chain("db"), chain("ad"), ("two", [(1, (1,))], ROWS, paper))
        self.check(False, STEPS, chain("db"), chain("ad"), ("two", [], ROWS, paper))
        self.check(False, STEPS, chain("db"), chain("ad"), ("two", [(1, (1,))], ROWS, C_D))
        # Other rows that lead to rest: of ab b may go first.
        parts = ("part", (("d",), chain("d")[2]), 0, 1)
        for rows in ([(0, (0,)), (1, (0,)), (1, (0,))], [(1, (1,)), (0, (0,)), (1, (1,))], [(0, (0,)), (1, (1,)), (1, (0,))]):
            self.check(True, STEPS, chain("ab"), chain("d"), ("two", rows, [], parts))
            self.check(False, STEPS, chain("ab"), chain("d"), ("two", rows[:2], [], parts))

    def test_unlike_outers(self):
        self.check(True, [], THROUGH, EMPTY, ("two", [], [], ("outers",)), STOCK)
        self.check(True, [], THROUGH, net(WIRE), ("two", [], [], ("outers",)), STOCK)
        self.check(False, [], THROUGH, net(WIRE), ("two", [], [], ("wire", 0, 1)), STOCK)
        self.check(False, [], THROUGH, EMPTY, ("two", [], [], ("wire", 0, 1)), STOCK)
        self.check(False, [], THROUGH, THROUGH, ("two", [], [], ("outers",)), STOCK)
        self.check(True, [], EMPTY, net("- ; -n a, +n a ; n 2"), ("two", [], [], ("rings",)), STOCK)

    def test_that_the_rules_join_is_not_asked(self):
        parting = [VANISH, BREAK]
        broken = net("one a, cut b ; -n a, +n b ; -")
        self.check(True, parting, net(NEG), net(NEG), ("two", [(0, (0,))], [(1, (0,))], ("wire", 0, 1)), STOCK)
        road = [("forth", 0, (0,), net(WIRE), ()), ("back", 0, (0,), net(NEG), ()), ("forth", 1, (0,), broken, (0, 1))]
        self.check(True, parting, net(NEG), broken, ("one", road, (0, 1)), STOCK)
        self.check(True, [KEEP], net(WIRE), net(WIRE), ("one", [], ()), STOCK)

    def test_bent_at_one_place(self):
        for _, thing in bends(ONE):
            self.check(False, STEPS, chain("ad"), chain("cd"), thing)
        for _, thing in bends(TWO):
            self.check(False, STEPS, chain("ad"), chain("db"), thing)

    def test_other_words(self):
        for word in ("two", "One", "forth", "", None, 0, ("one",)):
            self.check(False, STEPS, chain("ad"), chain("cd"), (word,) + ONE[1:])
        for word in ("one", "rest", None):
            self.check(False, STEPS, chain("ad"), chain("db"), (word,) + TWO[1:])

    def test_of_anything(self):
        for thing in ANYTHING + (("one", DEEP, DEEP), ("two", DEEP, DEEP, DEEP)):
            self.check(False, STEPS, chain("ad"), chain("cd"), thing)
            for word, many in itertools.product(("one", "two"), (0, 1, 2, 3, 4)):
                self.check(False, STEPS, chain("ad"), chain("cd"), (word,) + (thing,) * many)

    def test_nothing_is_changed(self):
        before = copy.deepcopy((STEPS, ONE, TWO))
        self.check(True, STEPS, chain("ad"), chain("cd"), ONE)
        self.check(True, STEPS, chain("ad"), chain("db"), TWO)
        self.assertEqual((STEPS, ONE, TWO), before)


if __name__ == "__main__":
    unittest.main()
