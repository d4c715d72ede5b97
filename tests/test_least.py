"""Least lists of rules [31], [32], [33], [3]."""

import copy
import itertools
import random
import unittest

from tests.samples import (
    ANYTHING, CHAINS, DEEP, STOCK, bends, chain, chain_rule, net, net_with_outers, pattern_in, rule, shuffled,
    some_full_net, some_net, word_of,
)
from tests.test_complete import ADDED, ONES, RULES, end_of
from weave.alike import is_naming, naming_of
from weave.complete import complete
from weave.ends import at_rest, run
from weave.errors import NoJoin, TooMany
from weave.joins import joins
from weave.least import is_least, made_least, shows_least
from weave.places import places_of
from weave.rules import is_rule
from weave.weights import falls

NEG = "neg a b ; -n a, +n b ; -"
WIRE = "- ; -n a, +n a ; -"
VANISH = rule(NEG, WIRE)
UNDO = rule("neg a b, neg b c ; -n a, +n c ; -", WIRE)
BREAK = rule(NEG, "one a, cut b ; -n a, +n b ; -")
KEEP = rule(NEG, "neg a b ; -n a, +n b ; n 1")
MEND = rule("one a, cut a ; - ; -", "neg a a ; - ; -")

# a makes b, b makes c; ab, which makes cc, is left out, as a lies in it.
STEPS = [chain_rule("a", "b"), chain_rule("b", "c"), chain_rule("ab", "cc")]
LEAST = (
    "least",
    [chain_rule("a", "c"), chain_rule("b", "c")],
    [(0, [(1, (0,))]), (1, [])],
    [
        # a, and b: c by one row each.
        ([(0, (0,))], [(1, (0,))], (0,)),
        ([(1, (0,))], [], (0,)),
        # ab: a's c stands behind b, then b's c behind it: so they stand as in cc.
        ([(0, (0,)), (1, (0,))], [], (0, 1)),
    ],
)


class IsLeastTest(unittest.TestCase):
    def check(self, expected, rules):
        self.assertIs(is_least(rules), expected)

    def test_no_rules_and_one(self):
        self.check(True, [])
        for told in (VANISH, UNDO, BREAK, chain_rule("aa", "a")):
            self.check(True, [told])

    def test_a_left_that_has_a_place_of_another_one(self):
        self.check(False, [VANISH, UNDO])
        self.check(False, [UNDO, VANISH])
        self.check(False, [UNDO, UNDO])
        self.check(False, [VANISH, BREAK])
        self.check(False, [chain_rule("abc", ""), chain_rule("d", ""), chain_rule("bc", "")])
        self.check(True, [chain_rule("abc", ""), chain_rule("d", ""), chain_rule("cb", ""), chain_rule("ac", "")])
        # Two negs in a round have places of two in a row, not the other way about.
        self.check(False, [UNDO, rule("neg a b, neg b a ; - ; -", "- ; - ; -")])
        # Lefts that lie in one another though their boxes and outers stand in another order.
        self.check(False, [UNDO, (shuffled(UNDO[0], (1, 0)), UNDO[1])])

    def test_a_right_that_has_a_place_of_any(self):
        self.check(False, [KEEP])
        self.check(False, [chain_rule("a", "b"), chain_rule("b", "c")])
        self.check(False, [chain_rule("b", "c"), chain_rule("a", "b")])
        self.check(False, [chain_rule("aa", "aa")])
        self.check(True, [chain_rule("a", "c"), chain_rule("b", "c")])
        self.check(False, [BREAK, MEND])
        self.check(True, [BREAK, rule("one a, cut a ; - ; -", "- ; - ; -")])

    def test_a_left_has_its_own_place(self):
        # Of three in a round the left has three places of its own.
        self.check(True, [rule("neg a b, neg b c, neg c a ; - ; -", "- ; - ; n 1")])


class MadeLeastTest(unittest.TestCase):
    def check_told(self, stock, rules, many):
        """What is told is as 31 has it; so many rules are left."""
        told = made_least(stock, rules)
        self.assertEqual((told[0], len(told)), ("least", 4))
        least, kept, outs = told[1:]
        for part in told[1:]:
            self.assertIsInstance(part, list)
        self.assertEqual((len(least), len(kept), len(outs)), (many, many, len(rules)))
        self.assertTrue(all(is_rule(stock, one) for one in least) and is_least(least))
        for one, (number, rows) in zip(least, kept):
            self.assertEqual(one, (rules[number][0], end_of(rules, rules[number][1], rows)))
        for (left, right), (rows, other_rows, naming) in zip(rules, outs):
            self.assertTrue(is_naming(end_of(least, left, rows), end_of(least, right, other_rows), naming))
        self.assertIs(shows_least(stock, rules, told), True)
        return told

    def check_refused(self, kind, stock, rules):
        with self.assertRaises(kind):
            made_least(stock, rules)

    def test_no_rules(self):
        self.assertEqual(made_least(STOCK, []), ("least", [], [], []))

    def test_rules_that_are_least(self):
        for rules in ([VANISH], [UNDO], [BREAK], [BREAK, rule("one a, cut a ; - ; -", "- ; - ; -")]):
            told = self.check_told(STOCK, rules, len(rules))
            self.assertEqual(told[1], rules)
        self.check_told(CHAINS, RULES + ADDED, 6)

    def test_lefts_that_lie_in_one_another(self):
        told = self.check_told(STOCK, [UNDO, VANISH], 1)
        self.assertEqual((told[1], told[2]), ([VANISH], [(1, [])]))
        self.check_told(STOCK, [VANISH, UNDO], 1)
        self.check_told(STOCK, [VANISH] * 4, 1)
        self.check_told(STOCK, [UNDO] * 3, 1)
        self.check_told(STOCK, [UNDO, (shuffled(UNDO[0], (1, 0)), UNDO[1])], 1)
        # abc lies over bc, and bc over c.
        rules = [chain_rule("abc", "a"), chain_rule("bc", ""), chain_rule("c", ""), chain_rule("b", "")]
        told = self.check_told(CHAINS, rules, 2)
        self.assertEqual(told[1], rules[2:])

    def test_rights_that_go_on(self):
        told = self.check_told(CHAINS, STEPS[:2], 2)
        self.assertEqual(told[1], LEAST[1])
        rules = [chain_rule("a", "b"), chain_rule("b", "c"), chain_rule("c", "d"), chain_rule("d", "e")]
        told = self.check_told(CHAINS, rules, 4)
        self.assertEqual([word_of(right) for _, right in told[1]], ["e"] * 4)
        self.assertEqual([len(rows) for _, rows in told[2]], [3, 2, 1, 0])

    def test_both(self):
        told = self.check_told(CHAINS, STEPS, 2)
        self.assertEqual(told[1:3], LEAST[1:3])
        self.assertIs(shows_least(CHAINS, STEPS, LEAST), True)

    def test_rules_that_are_not_told_to_join(self):
        self.check_refused(NoJoin, STOCK, [VANISH, BREAK])
        self.check_refused(NoJoin, STOCK, [UNDO, BREAK])
        self.check_refused(NoJoin, STOCK, [KEEP])
        self.check_refused(NoJoin, STOCK, [BREAK, MEND])
        self.check_refused(NoJoin, CHAINS, RULES)

    def test_runs_that_are_refused(self):
        crowd = chain_rule("a", "b" * 65)
        # No overlap: joins tells that it joins, but the run from the right has too many boxes.
        self.assertEqual(joins(CHAINS, [crowd])[0], "joins")
        self.check_refused(TooMany, CHAINS, [crowd])
        self.check_told(CHAINS, [chain_rule("a", "b" * 64)], 1)
        # A run that joins comes to.
        self.check_refused(TooMany, CHAINS, [crowd, crowd])
        # A right that goes on for a hundred rows, or more.
        for many, refused in ((50, False), (51, True)):
            rules = [chain_rule("b", "c"), chain_rule("c", "d"), chain_rule("a", "b" * many)]
            self.assertEqual(joins(CHAINS, rules)[0], "joins")
            if refused:
                self.check_refused(TooMany, CHAINS, rules)
            else:
                told = self.check_told(CHAINS, rules, 3)
                self.assertEqual([len(rows) for _, rows in told[2]], [1, 0, 100])
        # NoJoin goes first: the overlap that parts is ahead of any run that is refused.
        self.check_refused(NoJoin, CHAINS, [chain_rule("c", "d"), chain_rule("c", "e"), crowd])
        self.check_refused(NoJoin, CHAINS, [crowd, chain_rule("c", "c")])

    def test_more_than_three_hundred_overlaps(self):
        three = rule("neg a b, neg b c, neg c d ; -n a, +n d ; -", WIRE)
        self.check_refused(TooMany, STOCK, [VANISH] + [UNDO] * 6 + [three] * 6)
        self.check_told(STOCK, [VANISH] + [UNDO] * 5 + [three] * 5, 1)

    def test_nothing_is_changed_and_all_lists_are_the_askers_own(self):
        rules = list(STEPS)
        told = made_least(CHAINS, rules)
        again = copy.deepcopy(told)
        told[1].clear()
        for _, rows in told[2]:
            rows.append(None)
        for rows, other_rows, _ in told[3]:
            rows.append(None)
            self.assertNotIn(None, other_rows)
            other_rows.append(None)
        told[2].clear()
        told[3].clear()
        self.assertEqual(rules, STEPS)
        self.assertEqual(made_least(CHAINS, rules), again)


class ShowsLeastTest(unittest.TestCase):
    def check(self, expected, rules, thing, stock=CHAINS):
        self.assertIs(shows_least(stock, rules, thing), expected, thing)

    def with_part(self, at, part):
        return LEAST[:at] + (part,) + LEAST[at + 1:]

    def test_shown(self):
        self.check(True, STEPS, LEAST)
        self.check(True, [], ("least", [], [], []))

    def test_that_the_rules_join_is_not_asked(self):
        # b makes c and a, and a makes b: no weight lets them fall; that ca makes d parts.
        rules = [chain_rule("a", "b"), chain_rule("b", "b")]
        self.check(True, rules, ("least", [chain_rule("a", "b")], [(0, [])], [
            ([(0, (0,))], [], (0,)), ([], [], (0,)),
        ]))
        # It isn't asked whether nets are at rest: with no rules a left is not led to its right.
        self.check(False, rules, ("least", [], [], [([], [], (0,)), ([], [], (0,))]))
        self.check(True, rules[1:], ("least", [], [], [([], [], (0,))]))

    def test_which_rules_are_kept_is_any(self):
        rules = [chain_rule("a", "c"), chain_rule("b", "c"), chain_rule("a", "b")]
        outs = [([(0, (0,))], [], (0,)), ([(1, (0,))], [], (0,)), ([(0, (0,))], [(1, (0,))], (0,))]
        least = [chain_rule("a", "c"), chain_rule("b", "c")]
        self.check(True, rules, ("least", least, [(0, []), (1, [])], outs))
        self.check(True, rules, ("least", least, [(2, [(1, (0,))]), (1, [])], outs))
        self.check(False, rules, ("least", least, [(2, []), (1, [])], outs))
        self.check(False, rules, ("least", least, [(1, []), (0, [])], outs))
        # In another order.
        turned = [([(1, (0,))], [], (0,)), ([(0, (0,))], [], (0,)), ([(1, (0,))], [(0, (0,))], (0,))]
        self.check(True, rules, ("least", least[::-1], [(1, []), (0, [])], turned))
        self.check(False, rules, ("least", least[::-1], [(1, []), (0, [])], outs))

    def test_the_rules_are_least(self):
        # a makes b, not led on; all is right but that b has a place of the other.
        outs = [([(0, (0,)), (1, (0,))], [(1, (0,))], (0,)), ([(1, (0,))], [], (0,))]
        self.check(False, STEPS[:2], ("least", STEPS[:2], [(0, []), (1, [])], outs))
        # A rule that could be left out.
        outs = [([(0, (0,))], [(1, (0,))], (0,)), ([(1, (0,))], [], (0,)), ([(2, (0, 1))], [], (0, 1))]
        least = LEAST[1] + [chain_rule("ab", "cc")]
        self.check(False, STEPS, ("least", least, LEAST[2] + [(2, [])], outs))

    def test_the_right_is_just_the_net_that_came(self):
        rules = [chain_rule("a", "bc")]
        other = (chain("a"), shuffled(chain("bc"), (1, 0)))
        self.check(True, rules, ("least", rules, [(0, [])], [([(0, (0,))], [], (0, 1))]))
        self.check(False, rules, ("least", [other], [(0, [])], [([(0, (0,))], [], (1, 0))]))

    def test_numbers_of_rules(self):
        for number in (-1, -3, 3, True, False, None, "0", (0,), [0], 10**29):
            self.check(False, STEPS, self.with_part(2, [(number, [(1, (0,))]), (1, [])]))
        self.check(False, STEPS, self.with_part(2, [(0, [(1, (0,))]), (True, [])]))

    def test_rows(self):
        for rows in ([], [(0, (0,))], [(1, (0,))] * 2, ((1, (0,)),), [(1, [0])], [(True, (0,))], None, DEEP, [DEEP]):
            self.check(False, STEPS, self.with_part(2, [(0, rows), (1, [])]))
        # The rows of outs are by the told rules.
        self.check(False, STEPS, self.with_part(3, [([(0, (0,)), (1, (0,))], [(1, (0,))], (0,))] + LEAST[3][1:]))
        self.check(False, STEPS, self.with_part(3, [([(2, (0,))], [(1, (0,))], (0,))] + LEAST[3][1:]))

    def test_as_many_as_there_are(self):
        self.check(False, STEPS, self.with_part(3, LEAST[3][:2]))
        self.check(False, STEPS, self.with_part(3, LEAST[3] + LEAST[3][2:]))
        self.check(False, STEPS, self.with_part(2, LEAST[2][:1]))
        self.check(False, STEPS, self.with_part(2, LEAST[2] + LEAST[2][1:]))
        self.check(False, STEPS, self.with_part(1, LEAST[1][:1]))
        self.check(False, STEPS[:2], LEAST)
        self.check(False, [], LEAST)

    def test_other_rows_and_namings(self):
        # bb, led by either one first, comes to two nets of like boxes.
        rules = [chain_rule("b", "c"), chain_rule("bb", "cc")]
        for rows, naming, expected in (
            ([(0, (0,)), (0, (0,))], (0, 1), True), ([(0, (1,)), (0, (0,))], (1, 0), True),
            ([(0, (1,)), (0, (0,))], (0, 1), False), ([(0, (0,)), (0, (0,))], (1, 0), False),
            ([(0, (0,))], (0, 1), False), ([(0, (0,)), (0, (1,))], (0, 1), False),
        ):
            outs = [([(0, (0,))], [], (0,)), (rows, [], naming)]
            self.check(expected, rules, ("least", rules[:1], [(0, [])], outs))

    def test_bent_at_one_place(self):
        for _, thing in bends(LEAST):
            self.check(False, STEPS, thing)
        told = ("least", [VANISH], [(1, [])], [([(0, (0,)), (0, (0,))], [], ()), ([(0, (0,))], [], ())])
        self.check(True, [UNDO, VANISH], told, STOCK)
        # Of two negs either one may go first.
        other = ("least", [VANISH], [(1, [])], [([(0, (1,)), (0, (0,))], [], ()), ([(0, (0,))], [], ())])
        for path, thing in bends(told):
            # A truth in the place of the number is the same to Python.
            expected = thing == other and path == (3, 0, 0, 0, 1, 0) and type(thing[3][0][0][0][1][0]) is int
            self.check(expected, [UNDO, VANISH], thing, STOCK)

    def test_other_words(self):
        for word in ("joins", "complete", "Least", "", None, ("least",), 0):
            self.check(False, STEPS, (word,) + LEAST[1:])

    def test_of_anything(self):
        for thing in ANYTHING:
            for rules in ([], STEPS):
                self.check(False, rules, thing)
                for many in (0, 1, 2, 3, 4):
                    expected = rules == [] and many == 3 and isinstance(thing, list) and thing == []
                    self.check(expected, rules, ("least",) + (thing,) * many)

    def test_nothing_is_changed(self):
        before = copy.deepcopy((STEPS, LEAST))
        self.check(True, STEPS, LEAST)
        self.assertEqual((STEPS, LEAST), before)


class WorthTest(unittest.TestCase):
    """What a least list is worth [32], [33]."""

    def check_worth(self, stock, rules, weight, least, nets):
        for one in least:
            self.assertTrue(falls(stock, weight, one))
        self.assertEqual(joins(stock, least)[0], "joins")
        for told in nets:
            end, other_end = run(rules, told)[0], run(least, told)[0]
            self.assertEqual(at_rest(rules, told), at_rest(least, told))
            self.assertIsNotNone(naming_of(end, other_end))
        for at, (left, right) in enumerate(least):
            others = least[:at] + least[at + 1:]
            self.assertTrue(at_rest(others, left) and at_rest(others, right))
            self.assertIsNone(naming_of(left, right))

    def check_as_many(self, least, other):
        """Each left of the one has a place of just one left of the other, which has as many boxes."""
        self.assertEqual(len(least), len(other))
        for (left, _), (mine, others) in itertools.chain(
            ((pair, (least, other)) for pair in least), ((pair, (other, least)) for pair in other),
        ):
            there = [also for also, _ in others if places_of(left, also)]
            self.assertEqual([len(also[1]) for also in there], [len(left[1])])

    def test_by_chance(self):
        chance = random.Random(46)
        fewer = 0
        for _ in range(120):
            start = some_full_net(chance, 4)
            rules = []
            for _ in range(chance.randint(1, 3)):
                left = pattern_in(chance, start)[0]
                rules.append((left, net_with_outers(chance, left[0], chance.choice((0, 0, 1)))))
            told = joins(STOCK, rules)
            if told[0] == "joins":
                least = made_least(STOCK, rules)[1]
                fewer += len(least) < len(rules)
                self.check_worth(STOCK, rules, told[1], least, [some_net(chance, 6) for _ in range(4)])
        self.assertGreater(fewer, 3)

    def test_complete_rules(self):
        chance = random.Random(47)
        found = 0
        for _ in range(60):
            rules = []
            for _ in range(3):
                left = "".join(chance.choice("ab") for _ in range(chance.randint(2, 3)))
                rules.append(chain_rule(left, "".join(chance.choice("abc") for _ in range(chance.randint(0, 1)))))
            both = [complete(CHAINS, told, ONES, 12) for told in (rules, rules[::-1])]
            if both[0][0] != "complete" or both[1][0] != "complete":
                continue
            found += 1
            one, other = rules + both[0][1], rules[::-1] + both[1][1]
            least, other_least = made_least(CHAINS, one)[1], made_least(CHAINS, other)[1]
            words = ["".join(chance.choice("abc") for _ in range(6)) for _ in range(4)]
            self.check_worth(CHAINS, one, ONES, least, [chain(word) for word in words])
            self.check_as_many(least, other_least)
        self.assertGreater(found, 10)

    def test_a_list_that_is_made_least_again(self):
        least = made_least(CHAINS, STEPS)[1]
        self.assertEqual(made_least(CHAINS, least)[1], least)

    def test_a_net_with_loops(self):
        least = made_least(STOCK, [UNDO, VANISH])[1]
        self.assertEqual(run(least, net("neg a a ; - ; -"))[0], net("- ; - ; n 1"))


if __name__ == "__main__":
    unittest.main()
