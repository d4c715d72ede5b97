"""Patterns and rules [12]."""

import unittest

from tests.samples import ANYTHING, EMPTY, LOOP, NETS, SAMPLE, STOCK, THROUGH, bent, net
from weave.errors import NoRule
from weave.rules import is_pattern, is_rule, rule_of


PATTERNS = [net(text) for text in (
    "neg a a ; - ; -", "neg a b ; -n a, +n b ; -", "one a, cut a ; - ; -", "neg a b, neg b c ; -n a, +n c ; -",
    "neg a b, neg b c, neg c d ; -n a, +n d ; -", "neg a b, neg b c, neg c a ; - ; -",
    "cut a, add a b c, one c ; -n b ; -", "two a a b b ; - ; -",
)]
NO_PATTERNS = [net(text) for text in (
    "- ; - ; -", "- ; +n a, -n a ; -", "- ; - ; n 1",
    # Four boxes.
    "neg a b, neg b c, neg c d, neg d e ; -n a, +n e ; -", "neg a b, neg b c, neg c d, neg d a ; - ; -",
    # Boxes that do not hang together.
    "neg a a, neg b b ; - ; -", "one a, cut b ; -n a, +n b ; -", "neg a b, neg b a, neg c c ; - ; -",
    "neg a a, one b, cut b ; - ; -", "one a, neg b b, cut a ; - ; -",
    # A ring, and a wire between two outers.
    "neg a a ; - ; n 1", "neg a b ; -n a, +n b ; m 2", "neg a a ; +n b, -n b ; -",
    "neg a b ; -n a, +m c, +n b, -m c ; -",
)]


class PatternTest(unittest.TestCase):
    def test_patterns(self):
        for told in PATTERNS:
            self.assertIs(is_pattern(told), True, told)

    def test_nets_that_are_none(self):
        for told in NO_PATTERNS:
            self.assertIs(is_pattern(told), False, told)


class RuleTest(unittest.TestCase):
    LEFT = net("neg a b, neg b c ; -n a, +n c ; -")
    RIGHTS = [net(text) for text in (
        "- ; -n a, +n a ; -", "neg a c, neg b b ; -n a, +n c ; n 3", "one a, cut b ; -n a, +n b ; -",
        "neg a b, neg b c, neg c d, neg d e ; -n a, +n e ; -", "neg a b, neg b c ; -n a, +n c ; -",
    )]

    def test_right_is_any_net_of_the_same_outers(self):
        for right in self.RIGHTS:
            self.assertEqual(rule_of(self.LEFT, right), (self.LEFT, right))
            self.assertIs(is_rule(STOCK, (self.LEFT, right)), True)
        for left in PATTERNS:
            self.assertEqual(rule_of(left, left), (left, left))

    def test_left_is_a_pattern(self):
        for left in NO_PATTERNS:
            with self.assertRaises(NoRule):
                rule_of(left, left)
            self.assertIs(is_rule(STOCK, (left, left)), False)

    def test_outers_are_the_same(self):
        for text in ("- ; - ; -", "- ; +n a, -n a ; -", "- ; -m a, +m a ; -", "- ; -n a, +n a, -n b, +n b ; -",
                     "cut a ; +n a ; -"):
            right = net(text)
            with self.assertRaises(NoRule):
                rule_of(self.LEFT, right)
            self.assertIs(is_rule(STOCK, (self.LEFT, right)), False)

    def test_is_rule_of_anything(self):
        rule = (self.LEFT, self.RIGHTS[1])
        self.assertIs(is_rule(STOCK, rule), True)
        for thing in bent(rule):
            self.assertIs(is_rule(STOCK, thing), False, thing)
        for thing in ANYTHING:
            for other in (thing, (thing, thing), (self.LEFT, thing), (thing, self.RIGHTS[0])):
                self.assertIs(is_rule(STOCK, other), False)
        for thing in (rule[:1], rule + rule[:1], list(rule), (rule,), NETS, SAMPLE, EMPTY, LOOP, THROUGH):
            self.assertIs(is_rule(STOCK, thing), False)

    def test_both_sides_are_nets_of_the_stock(self):
        small = tuple(entry for entry in STOCK if entry[0] == "neg")
        twice = net("neg a b, neg b c, add d e d, cut e ; -n a, +n c ; -")
        self.assertIs(is_rule(small, (self.LEFT, self.LEFT)), True)
        self.assertIs(is_rule(small, (self.LEFT, twice)), False)
        self.assertIs(is_rule(STOCK, (self.LEFT, twice)), True)
        left = net("add a b c ; -n a, -n b, +n c ; -")
        self.assertIs(is_rule(small, (left, left)), False)


if __name__ == "__main__":
    unittest.main()
