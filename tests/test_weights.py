"""Weights and rules that fall [18], and what is told of a list of rules [19], [3]."""

import copy
import itertools
import random
import unittest

from tests.samples import ANYTHING, EMPTY, LOOP, STOCK, bent, net, rule, some_full_net, some_rules
from weave.laying import laid
from weave.places import places_of
from weave.rules import is_rule
from weave.weights import falls, is_weight, shows_weighed, weighed, weighs


# The kinds of the stock in order: add, cut, dup, neg, one, two.
UNDO = rule("neg a b, neg b c ; -n a, +n c ; -", "- ; -n a, +n a ; -")
NEG_TO_BREAK = rule("neg a b ; -n a, +n b ; -", "one a, cut b ; -n a, +n b ; -")
BREAK_TO_NEG = rule("one a, cut a ; - ; -", "neg a a ; - ; -")
KEEP = rule("neg a b ; -n a, +n b ; -", "neg a b ; -n a, +n b ; n 1")
GROW = rule("neg a b ; -n a, +n b ; -", "neg a b, one c, cut c ; -n a, +n b ; -")
ADD_TO_NEGS = rule("add a b a, cut b ; - ; -", "neg a a, neg b b, neg c c ; - ; -")
NEGS_TO_ADD = rule("neg a b, neg b c, neg c a ; - ; -", "add a b a, cut b ; - ; -")
TWO_NEGS_TO_ADD = rule("neg a b, neg b a ; - ; -", "add a b a, cut b ; - ; -")

SMALL = (("a", (("n", "+"),)), ("b", (("n", "+"),)), ("c", (("n", "+"),)))


WEIGHTS = tuple(itertools.product(range(6), repeat=3))


def bare(left, right):
    """A thing like a rule of the kinds of SMALL: weights ask the boxes alone."""
    return (((), tuple(left), (), ()), ((), tuple(right), (), ()))


class WeightTest(unittest.TestCase):
    def test_is_weight(self):
        for weight in ((0,) * 6, (1, 2, 3, 4, 5, 6), (10**29,) * 6, (0, 0, 0, 0, 0, 1)):
            self.assertIs(is_weight(STOCK, weight), True)
        self.assertIs(is_weight(SMALL, (0, 1, 2)), True)

    def test_no_weights(self):
        for thing in ((0,) * 5, (0,) * 7, (), [0] * 6, (0, 0, 0, 0, 0, -1), (-1, 0, 0, 0, 0, 0), (0, 0, 0, 0, 0, True),
                      (False,) * 6, (0, 0, 0, 0, 0, None), (0, 0, 0, 0, 0, "1"), (0, 0, 0, 0, 0, (1,)), 0, "000000", None):
            self.assertIs(is_weight(STOCK, thing), False, thing)
        for thing in list(bent((1, 2, 3, 4, 5, 6))) + list(ANYTHING):
            self.assertIs(is_weight(STOCK, thing), False, thing)

    def test_what_a_net_weighs(self):
        weight = (1, 10, 100, 1000, 10000, 100000)
        self.assertEqual(weighs(STOCK, weight, EMPTY), 0)
        self.assertEqual(weighs(STOCK, weight, LOOP), 1000)
        self.assertEqual(weighs(STOCK, weight, net("add a b c, cut a, cut b, neg c d, two p p q q ; +n d ; m 9, n 9")), 101021)
        self.assertEqual(weighs(STOCK, weight, net("- ; +n a, -n a ; n 5")), 0)
        self.assertEqual(weighs(STOCK, (0,) * 6, net("one a, cut a ; - ; -")), 0)

    def test_by_a_count_too(self):
        self.assertEqual(weighs(STOCK, (-1, -10, 5, 0, 3, 0), net("add a b c, cut a, cut b, dup c d e ; +n d, +n e ; -")), -16)
        self.assertEqual(weighs(STOCK, (0, -3, 0, 0, 3, 0), net("one a, cut a ; - ; -")), 0)

    def test_falls(self):
        self.assertIs(falls(STOCK, (0, 0, 0, 1, 0, 0), UNDO), True)
        self.assertIs(falls(STOCK, (9, 9, 9, 0, 9, 9), UNDO), False)
        self.assertIs(falls(STOCK, (0, 1, 0, 3, 1, 0), NEG_TO_BREAK), True)
        self.assertIs(falls(STOCK, (0, 1, 0, 2, 1, 0), NEG_TO_BREAK), False)
        self.assertIs(falls(STOCK, (0, 1, 0, 1, 1, 0), NEG_TO_BREAK), False)
        self.assertIs(falls(STOCK, (0, 1, 0, 1, 1, 0), BREAK_TO_NEG), True)
        self.assertIs(falls(STOCK, (1, 1, 1, 1, 1, 1), KEEP), False)

    def test_each_row_of_a_rule_that_falls_makes_a_net_lighter(self):
        chance = random.Random(26)
        for _ in range(200):
            told = some_full_net(chance, 6)
            rules, places = some_rules(chance, told, 1)
            weight = tuple(chance.randint(0, 4) for _ in STOCK)
            for place in places_of(told, rules[0][0]):
                made = laid(told, rules[0], place)
                lighter = weighs(STOCK, weight, made) < weighs(STOCK, weight, told)
                self.assertIs(lighter, falls(STOCK, weight, rules[0]))


class WeighedTest(unittest.TestCase):
    def check(self, stock, rules, word):
        told = weighed(stock, rules)
        self.assertIsInstance(told, tuple)
        self.assertEqual(told[0], word)
        self.assertIs(shows_weighed(stock, rules, told), True)
        self.assertEqual(weighed(stock, rules), told)
        return told

    def test_no_rules(self):
        self.check(STOCK, [], "weight")
        self.assertIs(shows_weighed(STOCK, [], ("weight", (0,) * 6)), True)
        self.assertIs(shows_weighed(STOCK, [], ("weight", (3, 1, 4, 1, 5, 9))), True)
        self.assertIs(shows_weighed(STOCK, [], ("none", ())), False)

    def test_rules_that_fall(self):
        self.check(STOCK, [UNDO], "weight")
        self.check(STOCK, [NEG_TO_BREAK], "weight")
        self.check(STOCK, [UNDO, NEG_TO_BREAK], "weight")
        self.check(STOCK, [UNDO, UNDO, UNDO], "weight")
        # neg more than one and cut together, and the add and its cut more than three negs.
        self.check(STOCK, [UNDO, NEG_TO_BREAK, ADD_TO_NEGS], "weight")
        self.check(STOCK, [ADD_TO_NEGS, rule("neg a a ; - ; -", "one a, cut a ; - ; -")], "weight")

    def test_rules_for_which_there_is_none(self):
        self.assertGreater(self.check(STOCK, [KEEP], "none")[1][0], 0)
        self.assertGreater(self.check(STOCK, [GROW], "none")[1][0], 0)
        # Only as many of the one as of the other.
        times = self.check(STOCK, [NEG_TO_BREAK, BREAK_TO_NEG], "none")[1]
        self.assertEqual(times[0], times[1])
        self.check(STOCK, [NEG_TO_BREAK, UNDO, BREAK_TO_NEG], "none")
        self.check(STOCK, [ADD_TO_NEGS, NEGS_TO_ADD], "none")
        self.check(STOCK, [ADD_TO_NEGS, TWO_NEGS_TO_ADD], "none")
        self.check(STOCK, [UNDO, KEEP], "none")

    def test_rules_that_are_taken_unlike_times(self):
        # Of an add and a cut come two negs, of three negs two adds and two cuts: the first is taken at most twice as
        # many times as the second, and at least one time and a half as many.
        rules = [rule("add a b a, cut b ; - ; -", "neg a a, neg b b ; - ; -"),
                 rule("neg a b, neg b c, neg c a ; - ; -", "add a b a, cut b, add c d c, cut d ; - ; -")]
        self.check(STOCK, rules, "none")
        for times in ((2, 1), (4, 2), (3, 2)):
            self.assertIs(shows_weighed(STOCK, rules, ("none", times)), True, times)
        for times in ((1, 1), (1, 0), (0, 1), (5, 2), (0, 0)):
            self.assertIs(shows_weighed(STOCK, rules, ("none", times)), False, times)

    def test_weights_that_must_be_large(self):
        # a weighs more than 120 b, b more than 120 c.
        rules = [bare("a", "b" * 120), bare("b", "c" * 120), bare("c", "")]
        weight = self.check(SMALL, rules, "weight")[1]
        self.assertGreater(weight[0], 120 * weight[1])
        self.assertGreater(weight[1], 120 * weight[2])
        self.check(SMALL, rules + [bare("ccc", "a")], "none")

    def test_all_small_lists_of_two(self):
        sides = ["".join(kinds) for many in range(3) for kinds in itertools.combinations_with_replacement("abc", many)]
        rules = [bare(left, right) for left in sides[1:] for right in sides]
        for one, other in itertools.product(rules, repeat=2):
            told = weighed(SMALL, [one, other])
            self.assertIs(shows_weighed(SMALL, [one, other], told), True)
            # Where all is small, some weight of numbers to 5 does where any does.
            fall = any(falls(SMALL, weight, one) and falls(SMALL, weight, other) for weight in WEIGHTS)
            self.assertEqual(told[0], "weight" if fall else "none")

    def test_lists_by_chance(self):
        chance = random.Random(27)
        kinds = "abcdefgh"
        stock = tuple((kind, (("n", "+"),)) for kind in kinds)
        words = {"weight": 0, "none": 0}
        for at in range(300):
            hidden = tuple(chance.randint(0, 30) for _ in kinds)
            rules = []
            while len(rules) < (1, 2, 3, 5, 8, 18)[at // 50]:
                sides = [chance.choices(kinds, k=chance.randint(least, 4)) for least in (1, 0)]
                if at % 2 == 0 or falls(stock, hidden, bare(*sides)):
                    rules.append(bare(*sides))
            told = weighed(stock, rules)
            self.assertIs(shows_weighed(stock, rules, told), True)
            words[told[0]] += 1
            if at % 2 == 1:
                self.assertEqual(told[0], "weight")
        self.assertGreater(min(words.values()), 30)

    def test_three_hundred_rules(self):
        chance = random.Random(28)
        kinds = "abcdefgh"
        stock = tuple((kind, (("n", "+"),)) for kind in kinds)
        hidden = (1, 3, 7, 17, 40, 101, 233, 555)
        rules = []
        while len(rules) < 299:
            told = bare(chance.choices(kinds, k=chance.randint(1, 3)), chance.choices(kinds, k=chance.randint(0, 9)))
            if falls(stock, hidden, told):
                rules.append(told)
        self.check(stock, rules, "weight")
        self.check(stock, rules + [bare("a", "h")], "none")

    def test_rules_of_nets(self):
        chance = random.Random(29)
        for many in range(1, 7):
            for _ in range(30):
                told = some_full_net(chance, 6)
                rules, _ = some_rules(chance, told, many)
                self.assertTrue(all(is_rule(STOCK, here) for here in rules))
                self.check(STOCK, rules, weighed(STOCK, rules)[0])

    def test_nothing_is_changed(self):
        rules = [UNDO, NEG_TO_BREAK]
        told = copy.deepcopy(rules)
        weighed(STOCK, rules)
        shows_weighed(STOCK, rules, ("weight", (0, 1, 0, 3, 1, 0)))
        self.assertEqual(rules, told)


class ShowsWeighedTest(unittest.TestCase):
    RULES = [UNDO, NEG_TO_BREAK]

    def check(self, rules, thing, shows):
        self.assertIs(shows_weighed(STOCK, rules, thing), shows, thing)

    def test_weights(self):
        self.check(self.RULES, ("weight", (0, 0, 0, 1, 0, 0)), True)
        self.check(self.RULES, ("weight", (7, 1, 7, 3, 1, 7)), True)
        self.check(self.RULES, ("weight", (0, 1, 0, 2, 1, 0)), False)
        self.check(self.RULES, ("weight", (0, 0, 0, 0, 0, 0)), False)
        self.check([UNDO, KEEP], ("weight", (0, 0, 0, 1, 0, 0)), False)
        self.check([KEEP, UNDO], ("weight", (0, 0, 0, 1, 0, 0)), False)

    def test_no_weights(self):
        for weight in ([0, 0, 0, 1, 0, 0], (0, 0, 0, True, 0, 0), (0, 0, 0, 1, 0), (0, 0, 0, 1, 0, 0, 0), (-1, 0, 0, 1, 0, 0),
                       (0, 0, 0, 1, 0, False), (0, 0, 0, 1, 0, None), None, 1, ((0, 0, 0, 1, 0, 0),)):
            self.check(self.RULES, ("weight", weight), False)

    def test_times(self):
        rules = [NEG_TO_BREAK, BREAK_TO_NEG, UNDO]
        for times in ((1, 1, 0), (7, 7, 0), (10**29, 10**29, 0)):
            self.check(rules, ("none", times), True)
        for times in ((0, 0, 0), (1, 0, 0), (0, 1, 0), (1, 2, 0), (2, 1, 0), (1, 1, 1), (0, 0, 1), (1, 1), (1, 1, 0, 0), (),
                      (-1, -1, 0), (1, 1, -1), [1, 1, 0], (True, True, 0), (1, 1, False), (1, 1, None), None, 1):
            self.check(rules, ("none", times), False)
        # More boxes may come than go.
        self.check([GROW], ("none", (2,)), True)
        self.check([KEEP], ("none", (1,)), True)

    def test_other_words_and_forms(self):
        weight = (0, 0, 0, 1, 0, 0)
        for thing in (("weights", weight), ("none", weight), ("weight",), ("weight", weight, weight), ["weight", weight],
                      (weight, "weight"), weight, ("", weight), (None, weight), (("weight",), weight), "weight"):
            self.check(self.RULES, thing, False)
        self.check([KEEP], ("weight", (1,)), False)
        self.check([KEEP] * 6, ("weight", (1,) * 6), False)
        self.check([KEEP] * 6, ("none", (1,) * 6), True)
        self.check([KEEP] * 6, ("open", (1,) * 6), False)

    def test_of_anything(self):
        for rules in ([], self.RULES, [KEEP]):
            for thing in ANYTHING:
                for other in (thing, (thing, thing), ("weight", thing), ("none", thing)):
                    self.check(rules, other, False)
        for thing in bent(("weight", (2, 1, 2, 3, 1, 2))):
            self.check(self.RULES, thing, False)
        for thing in bent(("none", (3, 3))):
            self.check([NEG_TO_BREAK, BREAK_TO_NEG], thing, False)


if __name__ == "__main__":
    unittest.main()
