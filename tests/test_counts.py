"""Counts that rules keep, their bases, and nets parted by them [34], [35]."""

import copy
import itertools
import random
import unittest
from fractions import Fraction

from tests.samples import CHAINS, EMPTY, STOCK, chain, chain_rule, net, rule, some_full_net, some_net, some_rules
from tests.test_complete import weight_of
from weave.counts import base_of, keeps, parted
from weave.laying import laid
from weave.places import places_of
from weave.weights import weighs

NEG = "neg a b ; -n a, +n b ; -"
BREAK = rule(NEG, "one a, cut b ; -n a, +n b ; -")
VANISH = rule(NEG, "- ; -n a, +n a ; -")


def gcd(one, other):
    while other:
        one, other = other, one % other
    return abs(one)


def changes(stock, rules):
    """For each rule how many boxes of each kind it takes away."""
    return [[left[1].count(kind) - right[1].count(kind) for kind, _ in stock] for left, right in rules]


def reduced(rows):
    """The rows that are left, each with its first number other than 0, of rows of numbers by whole steps."""
    rows = [[Fraction(number) for number in row] for row in rows]
    found, at = [], 0
    while rows and at < len(rows[0]):
        here = [row for row in rows if row[at]]
        rest = [row for row in rows if not row[at]]
        if here:
            found.append(here[0])
            for row in here[1:]:
                factor = row[at] / here[0][at]
                rest.append([number - factor * there for number, there in zip(row, here[0])])
        rows, at = rest, at + 1
    return found


def determinant(rows):
    """The determinant of as many rows as columns."""
    if not rows:
        return 1
    total = 0
    for at, number in enumerate(rows[0]):
        if number:
            total += (-1) ** at * number * determinant([row[:at] + row[at + 1:] for row in rows[1:]])
    return total


class KeepsTest(unittest.TestCase):
    def test_both_sides_come_to_the_same(self):
        # add, cut, dup, neg, one, two
        for count in ((0,) * 6, (5, 0, -7, 0, 0, 1), (0, 1, 0, 1, 0, 0), (0, -3, 0, 0, 3, 0), (0, 10**29, 0, 0, -10**29, 0)):
            self.assertIs(keeps(STOCK, count, BREAK), True)
        for count in ((0, 0, 0, 1, 0, 0), (0, 1, 0, 0, 0, 0), (0, 3, 0, -3, 3, 0), (0, 10**29, 0, 0, 1 - 10**29, 0)):
            self.assertIs(keeps(STOCK, count, BREAK), False)
        self.assertIs(keeps(STOCK, (0, 0, 0, 1, 0, 0), VANISH), False)
        self.assertIs(keeps(STOCK, (1, 1, 1, 0, 1, 1), VANISH), True)

    def test_rings_and_wires_count_nothing(self):
        ringed = rule(NEG, "neg a b ; -n a, +n b ; n 7")
        self.assertIs(keeps(STOCK, (1, 2, 3, 4, 5, 6), ringed), True)


class BaseTest(unittest.TestCase):
    def check_base(self, stock, rules, many=None):
        """The base is one: its counts are kept, none can be left out, and whole numbers of times are enough."""
        base = base_of(stock, rules)
        self.assertIsInstance(base, list)
        for count in base:
            self.assertIsInstance(count, tuple)
            self.assertEqual(len(count), len(stock))
            self.assertTrue(all(type(number) is int for number in count))
            self.assertTrue(all(keeps(stock, count, one) for one in rules))
        free = len(stock) - len(reduced(changes(stock, rules)))
        self.assertEqual(len(base), free)
        if many is not None:
            self.assertEqual(free, many)
        # Just one way of whole numbers: the determinants of as many columns have no divisor in common but 1.
        divisor = 0
        for columns in itertools.combinations(range(len(stock)), free):
            divisor = gcd(divisor, determinant([[count[at] for at in columns] for count in base]))
        self.assertEqual(divisor, 1)
        return base

    def test_no_rules(self):
        for stock in (STOCK, CHAINS, CHAINS[:1]):
            self.check_base(stock, [], len(stock))

    def test_a_rule_that_changes_nothing(self):
        self.check_base(CHAINS, [chain_rule("ab", "ba")], 5)
        self.check_base(CHAINS, [chain_rule("a", "a")] * 3, 5)

    def test_one_rule(self):
        self.check_base(CHAINS, [chain_rule("a", "b")], 4)
        self.check_base(CHAINS, [chain_rule("a", "")], 4)
        self.check_base(CHAINS[:1], [((chain("a")), (chain("aaa")))], 0)
        self.check_base(STOCK, [BREAK], 5)

    def test_what_is_kept_by_one_rule_only(self):
        # aa makes bbb: twice a's number is three times b's.
        base = self.check_base(CHAINS[:2], [chain_rule("aa", "bbb")], 1)
        self.assertIn(base[0], ((3, 2), (-3, -2)))
        base = self.check_base(CHAINS[:2], [chain_rule("aa", "bb")], 1)
        self.assertIn(base[0], ((1, 1), (-1, -1)))
        base = self.check_base(CHAINS[:2], [chain_rule("a", "b" * 120)], 1)
        self.assertIn(base[0], ((120, 1), (-120, -1)))
        base = self.check_base(CHAINS[:2], [chain_rule("a", "ab")], 1)
        self.assertIn(base[0], ((1, 0), (-1, 0)))

    def test_no_count_is_kept(self):
        self.assertEqual(base_of(CHAINS[:1], [chain_rule("aa", "a")]), [])
        self.assertEqual(base_of(CHAINS[:2], [chain_rule("aa", "b"), chain_rule("bb", "a")]), [])
        self.assertEqual(base_of(CHAINS, [chain_rule(letter, "") for letter in "abcde"]), [])
        # a makes b, b makes c, .., and e nothing.
        self.assertEqual(base_of(CHAINS, [chain_rule("abcde"[at], "bcde"[at:at + 1]) for at in range(5)]), [])

    def test_rules_that_depend_on_one_another(self):
        rules = [chain_rule("a", "b"), chain_rule("b", "c"), chain_rule("a", "c"), chain_rule("c", "a")]
        base = self.check_base(CHAINS, rules, 3)
        self.assertTrue(all(count[0] == count[1] == count[2] for count in base))
        # Twice, three times, and back.
        self.check_base(CHAINS, [chain_rule("a", "bb"), chain_rule("aa", "bbbb"), chain_rule("aaa", "b" * 6)], 4)
        self.check_base(CHAINS, [chain_rule("aa", "b"), chain_rule("ab", "c"), chain_rule("bb", "ac")], 3)

    def test_common_divisors(self):
        # By 6, 10 and 15 times a's number, and by two of them.
        rules = [chain_rule("b", "a" * 6), chain_rule("c", "a" * 10), chain_rule("d", "a" * 15)]
        self.check_base(CHAINS[:4], rules, 1)
        self.check_base(CHAINS[:3], [chain_rule("a" * 3, "b" * 6 + "c" * 10)], 2)
        self.check_base(CHAINS[:4], [chain_rule("b", "b" * 7 + "c" * 10 + "d" * 15)], 3)

    def test_large_numbers_of_boxes(self):
        rules = [
            chain_rule("a", "b" * 117), chain_rule("b", "c" * 113 + "a"), chain_rule("c", "d" * 109 + "e" * 7),
            chain_rule("d", "a" + "e" * 119),
        ]
        for many in range(5):
            self.check_base(CHAINS, rules[:many], 5 - many)
        self.check_base(CHAINS, rules * 3, 1)

    def test_by_chance(self):
        chance = random.Random(51)
        kept = [0] * 9
        for _ in range(200):
            kinds = chance.choice("abcd"), chance.choice("abcde"), "e"
            rules = []
            for _ in range(chance.randint(0, 6)):
                left = "".join(chance.choice("abcde") for _ in range(chance.randint(1, 3)))
                right = "".join(chance.choice(kinds) for _ in range(chance.randint(0, chance.choice((3, 100)))))
                rules.append(chain_rule(left, right))
            kept[len(self.check_base(CHAINS, rules))] += 1
        self.assertTrue(all(kept[:6]))

    def test_nothing_is_changed_and_the_list_is_the_askers_own(self):
        rules = [BREAK, VANISH]
        before = copy.deepcopy(rules)
        base = base_of(STOCK, rules)
        again = list(base)
        base.clear()
        self.assertEqual(base_of(STOCK, rules), again)
        self.assertEqual(rules, before)


class PartedTest(unittest.TestCase):
    def check(self, stock, rules, one, other, expected):
        """Whether some count kept parts them."""
        for first, second in ((one, other), (other, one)):
            told = parted(stock, rules, first, second)
            if not expected:
                self.assertIsNone(told)
                continue
            self.assertIsInstance(told, tuple)
            count, number, other_number = told
            self.assertEqual(len(count), len(stock))
            self.assertTrue(all(keeps(stock, count, one_rule) for one_rule in rules))
            self.assertEqual((weighs(stock, count, first), weighs(stock, count, second)), (number, other_number))
            self.assertNotEqual(number, other_number)

    def test_no_rules(self):
        self.check(CHAINS, [], chain("ab"), chain("ba"), False)
        self.check(CHAINS, [], chain("ab"), chain("aab"), True)
        self.check(CHAINS, [], chain(""), chain(""), False)

    def test_by_rules(self):
        rules = [chain_rule("a", "bb")]
        self.check(CHAINS, rules, chain("a"), chain("bb"), False)
        self.check(CHAINS, rules, chain("a"), chain("b"), True)
        self.check(CHAINS, rules, chain("aab"), chain("abbb"), False)
        self.check(CHAINS, rules, chain("aab"), chain("abbc"), True)
        self.check(CHAINS, rules, chain("a" * 60), chain("b" * 120), False)
        self.check(CHAINS, rules, chain("a" * 60), chain("b" * 119), True)

    def test_where_no_count_is_kept(self):
        rules = [chain_rule(letter, "") for letter in "abcde"]
        self.check(CHAINS, rules, chain("abc"), chain(""), False)

    def test_counts_tell_boxes_only(self):
        self.check(STOCK, [BREAK], net("- ; - ; n 3"), EMPTY, False)
        self.check(STOCK, [BREAK], net("neg a a ; - ; -"), net("one a, cut a ; - ; n 1"), False)
        self.check(STOCK, [BREAK], net("neg a a ; - ; -"), net("one a, one b ; -n a, -n b ; -"), True)
        self.check(STOCK, [BREAK], net("neg a a ; - ; -"), net("one a, cut b ; -n a, +n b ; -"), False)

    def test_by_even_numbers(self):
        # b makes c, and two of a two of b: no whole-numbered count parts a from b, though no road leads there.
        rules = [chain_rule("aa", "bb"), chain_rule("b", "c")]
        self.check(CHAINS, rules, chain("a"), chain("c"), False)
        self.check(CHAINS, rules, chain("a"), chain("cc"), True)

    def test_each_step_keeps_what_a_net_comes_to(self):
        chance = random.Random(52)
        steps = 0
        for _ in range(60):
            start = some_full_net(chance, 6)
            rules, _ = some_rules(chance, start, chance.randint(1, 3))
            base = base_of(STOCK, rules)
            for one in rules:
                for place in places_of(start, one[0]):
                    steps += 1
                    made = laid(start, one, place)
                    self.assertIsNone(parted(STOCK, rules, start, made))
                    for count in base:
                        self.assertEqual(weighs(STOCK, count, start), weighs(STOCK, count, made))
            other = some_net(chance, 6)
            told = parted(STOCK, rules, start, other)
            apart = any(weighs(STOCK, count, start) != weighs(STOCK, count, other) for count in base)
            self.assertEqual(told is not None, apart)
        self.assertGreater(steps, 60)

    def test_the_same_is_told_each_time(self):
        rules = [chain_rule("a", "bb")]
        told = parted(CHAINS, rules, chain("a"), chain("c"))
        self.assertEqual(parted(CHAINS, rules, chain("a"), chain("c")), told)

    def test_a_count_of_the_asker(self):
        # What is told of a count is what it weighs, below 0, too.
        count = weight_of(a=-3, b=10**29)
        self.assertEqual(weighs(CHAINS, count, chain("aab")), 10**29 - 6)
        self.assertIs(keeps(CHAINS, weight_of(a=-2, b=-1), chain_rule("a", "bb")), True)


if __name__ == "__main__":
    unittest.main()
