"""The checker of what complete tells [30]."""

import copy
import itertools
import random
import unittest

from tests.samples import ANYTHING, CHAINS, DEEP, bends, chain, chain_rule, shuffled
from tests.test_complete import ADDED, MEETS, ONES, RULES, weight_of
from weave.checker import lets_by
from weave.complete import complete
from weave.grown import lets_grown
from weave.rules import rule_of
from weave.weights import falls

# a makes b, and c: so b, which is the heavier one, is made to make c.
TWO = [chain_rule("a", "b"), chain_rule("a", "c")]
WEIGHT = weight_of(a=2, b=1)
B_TO_C = chain_rule("b", "c")
ROAD = [("back", 0, (0,), chain("a"), (0,)), ("forth", 1, (0,), chain("c"), (0,))]
MEET = ((0, 1, ((0, 0),)), [(2, (0,))], [], (0,))
WHOLE = ("complete", [B_TO_C], [ROAD], [MEET])

# The same by equal weights, and where none may be added.
B_ALONE = ("part", (("b",), chain("b")[2]), 1, 0)
EVEN = weight_of(a=2, b=1, c=1)
STUCK = ("stuck", [], [], (0, 1, ((0, 0),)), [], [], B_ALONE)
MORE = ("more", [], [], (0, 1, ((0, 0),)), [], [], B_ALONE)

# bd makes e, too: by b to c it makes cd, which weighs as much.
THREE = TWO + [chain_rule("bd", "e")]
THREE_WEIGHT = weight_of(a=2, b=1, d=1, e=1)
E_ALONE = ("part", (("e",), chain("e")[2]), 1, 0)
STUCK_LATER = ("stuck", [B_TO_C], [ROAD], (2, 3, ((0, 0),)), [], [], E_ALONE)
# By this weight e is the heavier one.
MORE_WEIGHT = weight_of(a=5, b=4, d=1, e=3)
MORE_LATER = ("more",) + STUCK_LATER[1:]


class LetsGrownTest(unittest.TestCase):
    def check(self, expected, rules, weight, most, thing):
        self.assertIs(lets_grown(CHAINS, rules, weight, most, thing), expected, thing)

    def check_bends(self, rules, weight, most, thing, step=1):
        """No bent one is let by."""
        self.check(True, rules, weight, most, thing)
        for _, other in itertools.islice(bends(thing), 0, None, step):
            self.check(False, rules, weight, most, other)

    def test_complete(self):
        self.check(True, [], ONES, 0, ("complete", [], [], []))
        self.check(True, TWO, WEIGHT, 1, WHOLE)
        self.check(True, TWO, WEIGHT, 12, WHOLE)
        roads = complete(CHAINS, RULES, ONES, 4)[2]
        self.check(True, RULES, ONES, 4, ("complete", ADDED, roads, MEETS))
        self.check(True, TWO + [B_TO_C], WEIGHT, 0, ("complete", [], [], [
            ((0, 1, ((0, 0),)), [(2, (0,))], [], (0,)),
        ]))

    def test_no_more_than_most(self):
        self.check(False, TWO, WEIGHT, 0, WHOLE)
        roads = complete(CHAINS, RULES, ONES, 4)[2]
        self.check(False, RULES, ONES, 3, ("complete", ADDED, roads, MEETS))

    def test_a_weight_by_which_some_rule_does_not_fall(self):
        for weight in (weight_of(a=1, b=1), weight_of(b=1), weight_of(a=1, c=1), (2, 1, 0, 0), (2, 1, 0, 0, -1), ()):
            self.check(False, TWO, weight, 1, WHOLE)
            self.check(False, TWO, weight, 0, STUCK)
            self.check(False, TWO, weight, 0, MORE)
        # By these the rules fall, but not the one that is added.
        for weight in (weight_of(a=1), weight_of(a=2, b=1, c=1), weight_of(a=3, b=1, c=2)):
            self.check(False, TWO, weight, 1, WHOLE)
        self.check(True, TWO, weight_of(a=3, b=2, c=1), 1, WHOLE)

    def test_each_added_rule_falls(self):
        # d makes e, and nothing: these weigh the same. b makes c falls, c makes b does not.
        rules = TWO + [chain_rule("d", "e"), chain_rule("d", "")]
        weight = weight_of(a=2, b=1, d=1)
        paper = ("part", (("e",), chain("e")[2]), 1, 0)
        tail = ((2, 3, ((0, 0),)), [], [], paper)
        back = [("back", 1, (0,), chain("a"), (0,)), ("forth", 0, (0,), chain("b"), (0,))]
        self.check(True, rules, weight, 1, ("stuck", [B_TO_C], [ROAD]) + tail)
        self.check(False, rules, weight, 1, ("stuck", [chain_rule("c", "b")], [back]) + tail)
        self.check(True, rules, weight_of(a=2, c=1, d=1), 1, ("stuck", [chain_rule("c", "b")], [back]) + tail)
        for added, road in ((B_TO_C, ROAD), (chain_rule("c", "b"), back)):
            self.check(False, rules, weight_of(a=2, d=1), 1, ("stuck", [added], [road]) + tail)

    def test_added_rules_are_at_rest_by_those_ahead(self):
        # c makes d, too: b makes d, not c, though it has a road and all meets.
        rules = TWO + [chain_rule("c", "d")]
        weight = weight_of(a=9, b=5, c=3, d=1)
        meets = [((0, 1, ((0, 0),)), [(3, (0,)), (2, (0,))], [(2, (0,))], (0,))]
        thing = ("complete", [B_TO_C], [ROAD], meets)
        self.assertIs(lets_by(CHAINS, rules + [B_TO_C], ("joins", weight, meets)), True)
        self.check(False, rules, weight, 1, thing)
        b_to_d = chain_rule("b", "d")
        road = ROAD + [("forth", 2, (0,), chain("d"), (0,))]
        meets = [((0, 1, ((0, 0),)), [(3, (0,))], [(2, (0,))], (0,))]
        self.check(True, rules, weight, 1, ("complete", [b_to_d], [road], meets))
        # The left, too: a second time the same rule, and one of a.
        again = [MEET, ((2, 3, ((0, 0),)), [], [], (0,))]
        self.assertIs(lets_by(CHAINS, TWO + [B_TO_C] * 2, ("joins", WEIGHT, again)), True)
        self.check(False, TWO, WEIGHT, 2, ("complete", [B_TO_C] * 2, [ROAD] * 2, again))
        one = [chain_rule("a", "b")]
        self.check(True, one, WEIGHT, 1, ("complete", [], [], []))
        meets = [((0, 1, ((0, 0),)), [], [], (0,))]
        self.assertIs(lets_by(CHAINS, one * 2, ("joins", WEIGHT, meets)), True)
        road = [("forth", 0, (0,), chain("b"), (0,))]
        self.check(False, one, WEIGHT, 1, ("complete", one, [road], meets))

    def test_a_rule_may_be_at_rest_ahead_of_its_own(self):
        # By cc to c the left of cc to c is not at rest: only those ahead are asked.
        roads = complete(CHAINS, RULES, ONES, 4)[2]
        self.check(True, RULES, ONES, 4, ("complete", ADDED, roads, MEETS))

    def test_other_roads(self):
        there = [("forth", 1, (0,), chain("c"), (0,)), ("back", 1, (0,), chain("a"), (0,))]
        self.check(True, TWO, WEIGHT, 1, WHOLE[:2] + ([ROAD[:1] + there + ROAD[1:]], [MEET]))
        self.check(True, TWO, WEIGHT, 1, WHOLE[:2] + ([ROAD + there[1:] + ROAD[1:]], [MEET]))
        # To another net, none, one step only; by the rule itself; not from its left; too many, too few; no lists.
        itself = [("forth", 2, (0,), chain("c"), (0,))]
        for roads in (
            [ROAD + there[1:]], [[]], [ROAD[:1]], [ROAD[1:]], [itself], [ROAD[::-1]], [ROAD, ROAD], [ROAD, []], [],
            (ROAD,), [tuple(ROAD)], [None], None, [DEEP], DEEP,
        ):
            self.check(False, TWO, WEIGHT, 1, WHOLE[:2] + (roads, [MEET]))

    def test_a_road_to_a_net_that_is_alike(self):
        # b makes cd, told with the boxes the other way about at the end of the road.
        rules = [chain_rule("a", "b"), chain_rule("a", "cd")]
        weight = weight_of(a=2, b=1)
        added = chain_rule("b", "cd")
        other = shuffled(chain("cd"), (1, 0))
        meets = [((0, 1, ((0, 0),)), [(2, (0,))], [], (0, 1))]
        for told, naming, expected in ((chain("cd"), (0, 1), True), (other, (1, 0), True), (other, (0, 1), False)):
            road = ROAD[:1] + [("forth", 1, (0,), told, naming)]
            self.check(expected, rules, weight, 1, ("complete", [added], [road], meets))

    def test_other_rules_than_those_that_complete_adds(self):
        # b makes c as the outers stand the other way about.
        turned = rule_of(*[(net[0][::-1], net[1], tuple(sorted(
            ((-1, 1 - one[1]), other) for one, other in net[2])), net[3]) for net in B_TO_C])
        self.assertNotEqual(turned, B_TO_C)
        road = []
        for (way, number, place, _, naming), word in zip(ROAD, "ac"):
            net = chain(word)
            told = (net[0][::-1], net[1], tuple(sorted(((-1, 1 - one[1]), other) for one, other in net[2])), net[3])
            road.append((way, number, place, told, naming))
        self.check(True, TWO, WEIGHT, 1, ("complete", [turned], [road], [MEET]))
        self.check(False, TWO, WEIGHT, 1, ("complete", [turned], [ROAD], [MEET]))
        self.check(False, TWO, WEIGHT, 1, ("complete", [B_TO_C], [road], [MEET]))

    def test_what_is_no_rule(self):
        for added in (
            (chain("b"), chain("")[:3]), [chain("b"), chain("c")], (chain(""), chain("")), (chain("b"),), None, 0, (), DEEP,
            (chain("bbbb"), chain("c")), chain_rule("b", "c") + (None,), (chain("b"), ((), ("c",), (((0, 0), (0, 1)),), ())),
        ):
            self.check(False, TWO, WEIGHT, 1, ("complete", [added], [ROAD], [MEET]))
        self.check(False, TWO, WEIGHT, 1, ("complete", (B_TO_C,), [ROAD], [MEET]))
        self.check(False, TWO, WEIGHT, 1, ("complete", B_TO_C, [ROAD], [MEET]))

    def test_meets(self):
        for meets in ([], [MEET, MEET], (MEET,), [MEET[:1] + ([], [], (0,))], None):
            self.check(False, TWO, WEIGHT, 1, WHOLE[:3] + (meets,))
        self.check(False, TWO, WEIGHT, 1, ("complete", [], [], [MEET]))
        self.check(False, TWO, WEIGHT, 1, ("complete", [], [], []))

    def test_stuck(self):
        for most in (0, 1, 12):
            self.check(True, TWO, EVEN, most, STUCK)
            self.check(True, TWO, weight_of(a=1), most, STUCK)
        # By another weight a rule could be added.
        for weight in (WEIGHT, weight_of(a=2, c=1)):
            for most in (0, 1):
                self.check(False, TWO, weight, most, STUCK)
        self.check(True, THREE, THREE_WEIGHT, 1, STUCK_LATER)
        self.check(True, THREE, THREE_WEIGHT, 12, STUCK_LATER)
        self.check(False, THREE, THREE_WEIGHT, 0, STUCK_LATER)
        self.check(False, THREE, MORE_WEIGHT, 1, STUCK_LATER)

    def test_stuck_by_an_end_that_is_no_pattern(self):
        rules = [chain_rule("a", "bbbb"), chain_rule("a", "c")]
        paper = ("part", (("c",), chain("c")[2]), 0, 1)
        thing = ("stuck", [], [], (0, 1, ((0, 0),)), [], [], paper)
        self.check(True, rules, weight_of(a=5, b=1), 3, thing)
        self.check(False, rules, weight_of(a=5, b=1), 0, ("more",) + thing[1:])
        # By this one c is the heavier one, which is a pattern.
        self.check(False, rules, weight_of(a=5, b=1, c=4), 3, ("more",) + thing[1:])
        self.check(True, rules, weight_of(a=5, b=1, c=4), 3, thing)
        self.check(False, rules, weight_of(a=6, b=1, c=5), 3, thing)
        self.check(True, rules, weight_of(a=6, b=1, c=5), 0, ("more",) + thing[1:])

    def test_more(self):
        self.check(True, TWO, WEIGHT, 0, MORE)
        self.check(True, TWO, weight_of(a=2, c=1), 0, MORE)
        for most in (1, 12):
            self.check(False, TWO, WEIGHT, most, MORE)
        self.check(False, TWO, EVEN, 0, MORE)
        self.check(True, THREE, MORE_WEIGHT, 1, MORE_LATER)
        for most in (0, 2):
            self.check(False, THREE, MORE_WEIGHT, most, MORE_LATER)
        self.check(False, THREE, THREE_WEIGHT, 1, MORE_LATER)

    def test_not_the_first_overlap(self):
        # d makes e and nothing, too: either overlap may be told.
        rules = TWO + [chain_rule("d", "e"), chain_rule("d", "")]
        weight = weight_of(a=2, b=1, c=1, d=1)
        paper = ("part", (("e",), chain("e")[2]), 1, 0)
        for thing in (STUCK, ("stuck", [], [], (2, 3, ((0, 0),)), [], [], paper)):
            self.check(True, rules, weight, 3, thing)

    def test_both_ends_are_at_rest(self):
        rules = TWO + [chain_rule("c", "d")]
        weight = weight_of(a=2, b=1, c=1)
        self.check(False, rules, weight, 0, STUCK)
        self.check(False, rules, weight, 0, MORE)
        self.check(True, rules, weight, 0, MORE[:5] + ([(2, (0,))], B_ALONE))

    def test_bent_at_one_place(self):
        self.check_bends(TWO, WEIGHT, 1, WHOLE)
        self.check_bends(TWO, EVEN, 1, STUCK)
        self.check_bends(TWO, WEIGHT, 0, MORE)
        self.check_bends(THREE, THREE_WEIGHT, 1, STUCK_LATER)
        self.check_bends(THREE, MORE_WEIGHT, 1, MORE_LATER)
        self.check_bends(RULES, ONES, 4, complete(CHAINS, RULES, ONES, 4), 11)
        self.check_bends(RULES, ONES, 3, complete(CHAINS, RULES, ONES, 3), 11)

    def test_other_words(self):
        for word in ("joins", "parts", "open", "least", "complete", "more", "stuck", None, 0, ("complete",)):
            self.check(word == "complete", TWO, WEIGHT, 1, (word,) + WHOLE[1:])
            self.check(word == "stuck", TWO, EVEN, 0, (word,) + STUCK[1:])
            self.check(word == "more", TWO, WEIGHT, 0, (word,) + MORE[1:])

    def test_of_anything(self):
        for thing in ANYTHING:
            for rules, weight in (([], ONES), (TWO, WEIGHT)):
                self.check(False, rules, weight, 3, thing)
                for word, many in itertools.product(("complete", "stuck", "more"), (0, 3, 6)):
                    expected = rules == [] and thing == [] and isinstance(thing, list) and (word, many) == ("complete", 3)
                    self.check(expected, rules, weight, 3, (word,) + (thing,) * many)

    def test_nothing_is_changed(self):
        for rules, weight, most, thing in (
            (TWO, WEIGHT, 1, WHOLE), (THREE, THREE_WEIGHT, 1, STUCK_LATER), (THREE, MORE_WEIGHT, 1, MORE_LATER),
        ):
            before = copy.deepcopy((rules, thing))
            self.check(True, rules, weight, most, thing)
            self.assertEqual((rules, thing), before)

    def test_what_complete_tells_is_let_by(self):
        chance = random.Random(45)
        words = {"complete": 0, "stuck": 0, "more": 0}
        for _ in range(120):
            weight = tuple(chance.randint(1, 3) for _ in CHAINS)
            rules = []
            for _ in range(chance.randint(0, 6)):
                left = "".join(chance.choice("abc") for _ in range(chance.randint(1, 3)))
                right = "".join(chance.choice("abc") for _ in range(chance.randint(0, 2)))
                if falls(CHAINS, weight, chain_rule(left, right)):
                    rules.append(chain_rule(left, right))
            most = chance.randint(0, 5)
            told = complete(CHAINS, rules, weight, most)
            words[told[0]] += 1
            self.check(True, rules, weight, most, told)
            for word in set(words) - {told[0]}:
                self.check(False, rules, weight, most, (word,) + told[1:])
        self.assertGreater(min(words.values()), 5)


if __name__ == "__main__":
    unittest.main()
