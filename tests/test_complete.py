"""Rules made complete [28], [29], [3]."""

import copy
import itertools
import random
import unittest

from tests.samples import CHAINS, MINUS, PLUS, STOCK, chain, chain_rule, rule, word_of
from weave.alike import naming_of
from weave.checker import lets_by
from weave.complete import complete
from weave.ends import at_rest, run
from weave.errors import NoFall, TooMany
from weave.glued import outcomes
from weave.joins import joins
from weave.overlaps import overlaps
from weave.roads import road_end
from weave.rows import walked
from weave.rules import is_rule, rule_of
from weave.texts import read_net, read_stock
from weave.unlike import shows_unlike
from weave.weights import falls, weighed, weighs

ONES = (1, 1, 1, 1, 1)

# ab makes c, and ba nothing: so c is worth nothing beside a, b and c.
RULES = [chain_rule("ab", "c"), chain_rule("ba", "")]

BOTH_OUT = (PLUS, MINUS)
RING = ((), (), (), (("n", 1),))
# The outers and the boxes of what is added stand as they come: see each overlap's net.
BC = (BOTH_OUT, ("b", "c"), (((-1, 0), (1, 1)), ((-1, 1), (0, 0)), ((0, 1), (1, 0))), ())
B = (BOTH_OUT, ("b",), (((-1, 0), (0, 1)), ((-1, 1), (0, 0))), ())
LOOP = ((), ("c",), (((0, 0), (0, 1)),), ())
CA = ((MINUS, PLUS), ("a", "c"), (((-1, 0), (1, 0)), ((-1, 1), (0, 1)), ((0, 0), (1, 1))), ())
A = ((MINUS, PLUS), ("a",), (((-1, 0), (0, 0)), ((-1, 1), (0, 1))), ())
CC = ((MINUS, PLUS), ("c", "c"), (((-1, 0), (1, 0)), ((-1, 1), (0, 1)), ((0, 0), (1, 1))), ())
C = ((MINUS, PLUS), ("c",), (((-1, 0), (0, 0)), ((-1, 1), (0, 1))), ())
ADDED = [(BC, B), (LOOP, RING), (CA, A), (CC, C)]

MEETS = [
    # bab: bc and b, so bc makes b.
    ((0, 1, ((0, 1),)), [(2, (0, 1))], [], (0,)),
    # a and b in a round: c joined to itself, or a ring.
    ((0, 1, ((0, 1), (1, 0))), [(3, (0,))], [], ()),
    # aba: ca and a.
    ((0, 1, ((1, 0),)), [(4, (0, 1))], [], (0,)),
    # abc: cc, or ab and then c.
    ((0, 2, ((1, 0),)), [(5, (0, 1))], [(0, (0, 1))], (0,)),
    # cab: cc and then c, or ab and then c.
    ((0, 4, ((0, 0),)), [(5, (1, 0))], [(0, (1, 0))], (0,)),
    # bca: ba and then nothing, either way.
    ((2, 4, ((1, 1),)), [(1, (1, 0))], [(1, (0, 1))], ()),
    # bcc: bc and then b.
    ((2, 5, ((1, 1),)), [(2, (1, 0))], [(2, (0, 1))], (0,)),
    # cca: ca and then a.
    ((4, 5, ((1, 0),)), [(4, (1, 0))], [(4, (0, 1))], (0,)),
    # ccc: cc and then c.
    ((5, 5, ((0, 1),)), [(5, (0, 1))], [(5, (1, 0))], (0,)),
    # c and c in a round: c joined to itself and then a ring.
    ((5, 5, ((0, 1), (1, 0))), [(3, (0,))], [(3, (0,))], ()),
]


def weight_of(**numbers):
    return tuple(numbers.get(kind, 0) for kind, _ in CHAINS)


def end_of(rules, told, rows):
    return ([told] + walked(rules, told, rows))[-1]


class CompleteTest(unittest.TestCase):
    def check_added(self, stock, rules, weight, most, told):
        """What each of the tuples has: rules that fall and are at rest by those ahead, each with its road."""
        added, roads = told[1:3]
        self.assertIsInstance(added, list)
        self.assertIsInstance(roads, list)
        self.assertLessEqual(len(added), most)
        self.assertEqual(len(added), len(roads))
        for at, (left, right) in enumerate(added):
            ahead = rules + added[:at]
            self.assertTrue(is_rule(stock, (left, right)) and falls(stock, weight, (left, right)))
            self.assertTrue(at_rest(ahead, left) and at_rest(ahead, right))
            self.assertIsInstance(roads[at], list)
            self.assertIsNotNone(naming_of(road_end(stock, ahead, left, roads[at]), right))

    def check_complete(self, stock, rules, weight, most, added):
        told = complete(stock, rules, weight, most)
        self.assertEqual((told[0], len(told)), ("complete", 4))
        self.check_added(stock, rules, weight, most, told)
        if added is not None:
            self.assertEqual(told[1], added)
        self.assertIsInstance(told[3], list)
        self.assertEqual([meet[0] for meet in told[3]], overlaps(rules + told[1]))
        self.assertIs(lets_by(stock, rules + told[1], ("joins", weight, told[3])), True)
        return told

    def check_broken(self, stock, rules, weight, most, head, overlap, rows, other_rows):
        """What is told where it is stuck or where there are more; head is the word and how many are added."""
        told = complete(stock, rules, weight, most)
        self.assertEqual((told[0], len(told[1]), len(told)), head + (7,))
        self.assertEqual(told[3:6], (overlap, rows, other_rows))
        self.check_added(stock, rules, weight, most, told)
        grown = rules + told[1]
        one, other = outcomes(stock, grown, overlap)
        ends = end_of(grown, one, rows), end_of(grown, other, other_rows)
        self.assertTrue(at_rest(grown, ends[0]) and at_rest(grown, ends[1]))
        self.assertIs(shows_unlike(stock, ends[0], ends[1], told[6]), True)
        return told

    def check_refused(self, kind, rules, weight, most, stock=CHAINS):
        with self.assertRaises(kind):
            complete(stock, rules, weight, most)

    def test_no_rules(self):
        for most in (0, 12):
            self.assertEqual(complete(CHAINS, [], ONES, most), ("complete", [], [], []))
            self.assertEqual(complete(CHAINS, [], (0,) * 5, most), ("complete", [], [], []))

    def test_rules_that_join(self):
        for rules in ([chain_rule("a", "b")], [chain_rule("aa", "")], [chain_rule("aa", "a"), chain_rule("ab", "b")]):
            for most in (0, 3):
                weight = (2, 1, 0, 0, 0)
                told = self.check_complete(CHAINS, rules, weight, most, [])
                self.assertEqual([meet[:3] for meet in told[3]], [meet[:3] for meet in joins(CHAINS, rules)[2]])

    def test_rules_that_are_added(self):
        told = self.check_complete(CHAINS, RULES, ONES, 4, ADDED)
        self.assertEqual(told[3], MEETS)
        self.assertEqual(complete(CHAINS, RULES, ONES, 12), told)

    def test_roads(self):
        for at, road in enumerate(complete(CHAINS, RULES, ONES, 4)[2]):
            ahead = RULES + ADDED[:at]
            self.assertEqual(road_end(CHAINS, ahead, ADDED[at][0], road), ADDED[at][1])
        # From bc back to bab, and forth to b; from cc back to abc, forth to ab and to c.
        roads = complete(CHAINS, RULES, ONES, 4)[2]
        self.assertEqual([[step[:2] + (word_of(step[3]),) for step in roads[at]] for at in (0, 2, 3)], [
            [("back", 0, "bab"), ("forth", 1, "b")],
            [("back", 0, "aba"), ("forth", 1, "a")],
            [("back", 0, "abc"), ("forth", 2, "ab"), ("forth", 0, "c")],
        ])

    def test_the_second_end_is_the_heavier_one(self):
        # ab makes nothing, ba makes c: now the first ends are the lighter ones.
        rules = [chain_rule("ab", ""), chain_rule("ba", "c")]
        told = self.check_complete(CHAINS, rules, ONES, 12, None)
        # bab: b and cb; a and b in a round: a ring and c joined to itself; aba: a and ac.
        self.assertEqual([meet[:3] for meet in told[3][:3]], [
            ((0, 1, ((0, 1),)), [], [(2, (0, 1))]), ((0, 1, ((0, 1), (1, 0))), [], [(3, (0,))]),
            ((0, 1, ((1, 0),)), [], [(4, (0, 1))]),
        ])
        self.assertEqual([told[1][at][0][1] for at in (0, 1, 2)], [("b", "c"), ("c",), ("a", "c")])
        self.assertEqual([word_of(told[1][at][0]) for at in (0, 2)], ["cb", "ac"])
        self.assertEqual([word_of(told[1][at][1]) for at in (0, 2)], ["b", "a"])
        self.assertEqual([step[:2] for step in told[2][0]], [("back", 1), ("forth", 0)])

    def test_by_which_weight(self):
        # a makes b and c: by the one weight b makes c, by the other one c makes b.
        rules = [chain_rule("a", "b"), chain_rule("a", "c")]
        self.check_complete(CHAINS, rules, weight_of(a=2, b=1), 1, [chain_rule("b", "c")])
        told = self.check_complete(CHAINS, rules, weight_of(a=2, c=1), 1, [chain_rule("c", "b")])
        self.assertEqual(told[3], [((0, 1, ((0, 0),)), [], [(2, (0,))], (0,))])
        self.check_broken(CHAINS, rules, weight_of(a=2, b=1, c=1), 1, ("stuck", 0), (0, 1, ((0, 0),)), [], [])

    def test_each_outcome_is_run_by_all_rules_that_there_are_by_then(self):
        # a makes b, c, and again b: when rule 2 comes, b makes c already.
        rules = [chain_rule("a", "b"), chain_rule("a", "c"), chain_rule("a", "b")]
        told = self.check_complete(CHAINS, rules, weight_of(a=2, b=1), 1, [chain_rule("b", "c")])
        self.assertEqual([meet[:3] for meet in told[3]], [
            ((0, 1, ((0, 0),)), [(3, (0,))], []), ((0, 2, ((0, 0),)), [(3, (0,))], [(3, (0,))]),
            ((1, 2, ((0, 0),)), [], [(3, (0,))]),
        ])

    def test_stuck_by_equal_weights(self):
        rules = [chain_rule("a", "b"), chain_rule("a", "c")]
        for weight in (weight_of(a=1), weight_of(a=9, b=4, c=4)):
            for most in (0, 1):
                self.check_broken(CHAINS, rules, weight, most, ("stuck", 0), (0, 1, ((0, 0),)), [], [])
        # The second one falls behind by a run.
        more = rules + [chain_rule("b", "d")]
        self.check_broken(CHAINS, more, weight_of(a=2, b=1), 0, ("stuck", 0), (0, 1, ((0, 0),)), [(2, (0,))], [])

    def test_stuck_by_a_heavier_end_that_is_no_pattern(self):
        four = [chain_rule("a", "bbbb"), chain_rule("a", "c")]
        self.check_broken(CHAINS, four, weight_of(a=5, b=1), 9, ("stuck", 0), (0, 1, ((0, 0),)), [], [])
        three = [chain_rule("a", "bcd"), chain_rule("a", "e")]
        self.check_complete(CHAINS, three, weight_of(a=5, b=1), 9, [chain_rule("bcd", "e")])
        # Boxes that don't hang together; a ring; a wire between two outers beside a box.
        lefts = chain("a")
        for text in (
            "b w w, c x y ; -n x, +n y ; -", "b x y ; -n x, +n y ; n 1", "b w w ; -n x, +n x ; -",
        ):
            rules = [rule_of(lefts, read_net(CHAINS, text)), chain_rule("a", "d")]
            for most in (0, 3):
                told = self.check_broken(CHAINS, rules, weight_of(a=2, b=1), most, ("stuck", 0), (0, 1, ((0, 0),)), [], [])
                self.assertEqual(told[1:3], ([], []))
            turned = rules[::-1]
            self.check_broken(CHAINS, turned, weight_of(a=2, b=1), 3, ("stuck", 0), (0, 1, ((0, 0),)), [], [])
        # By another weight the other end is heavier, and a pattern.
        heavy = self.check_complete(CHAINS, four, weight_of(a=5, c=1), 9, [chain_rule("c", "bbbb")])
        self.assertEqual(heavy[3], [((0, 1, ((0, 0),)), [], [(2, (0,))], (0, 1, 2, 3))])

    def test_stuck_goes_ahead_of_more(self):
        rules = [chain_rule("a", "bbbb"), chain_rule("a", "c")]
        self.check_broken(CHAINS, rules, weight_of(a=5, b=1), 0, ("stuck", 0), (0, 1, ((0, 0),)), [], [])

    def test_stuck_at_a_rule_that_was_added(self):
        # b makes c is added; of bd come e by rule 2 and cd by the added one: these weigh the same.
        rules = [chain_rule("a", "b"), chain_rule("a", "c"), chain_rule("bd", "e")]
        weight = weight_of(a=2, b=1, d=1, e=1)
        told = self.check_broken(CHAINS, rules, weight, 5, ("stuck", 1), (2, 3, ((0, 0),)), [], [])
        self.assertEqual(told[1], [chain_rule("b", "c")])

    def test_more(self):
        # The fourth overlap of those whose ends are unlike is that of abc.
        self.check_broken(CHAINS, RULES, ONES, 0, ("more", 0), (0, 1, ((0, 1),)), [], [])
        self.check_broken(CHAINS, RULES, ONES, 1, ("more", 1), (0, 1, ((0, 1), (1, 0))), [], [])
        self.check_broken(CHAINS, RULES, ONES, 2, ("more", 2), (0, 1, ((1, 0),)), [], [])
        told = self.check_broken(CHAINS, RULES, ONES, 3, ("more", 3), (0, 2, ((1, 0),)), [], [(0, (0, 1))])
        self.assertEqual(told[1], ADDED[:3])
        self.assertEqual(told[2], complete(CHAINS, RULES, ONES, 4)[2][:3])

    def test_twelve_are_added(self):
        rules = [chain_rule("acc", ""), chain_rule("cab", "b"), chain_rule("ba", "a")]
        weight = (1, 1, 3, 2, 3)
        told = self.check_complete(CHAINS, rules, weight, 12, None)
        self.assertEqual(len(told[1]), 12)
        fewer = complete(CHAINS, rules, weight, 11)
        self.assertEqual((fewer[0], fewer[1], fewer[2]), ("more", told[1][:11], told[2][:11]))
        others = [chain_rule("cb", "a"), chain_rule("bbc", ""), chain_rule("cba", "")]
        more = complete(CHAINS, others, (3, 1, 3, 1, 3), 12)
        self.assertEqual((more[0], len(more[1])), ("more", 12))
        self.check_added(CHAINS, others, (3, 1, 3, 1, 3), 12, more)

    def test_a_weight_by_which_some_rule_does_not_fall(self):
        self.check_refused(NoFall, RULES, (0,) * 5, 3)
        self.check_refused(NoFall, RULES, weight_of(a=1, b=1, c=2), 3)
        self.check_refused(NoFall, RULES, weight_of(c=1), 0)
        self.check_complete(CHAINS, RULES, weight_of(a=1, b=1, c=1), 4, ADDED)
        # The second rule falls, the first doesn't, and the other way about.
        self.check_refused(NoFall, [chain_rule("a", "a"), chain_rule("b", "")], ONES, 3)
        self.check_refused(NoFall, [chain_rule("b", ""), chain_rule("a", "b")], ONES, 3)

    def test_what_is_no_weight(self):
        for weight in ((1, 1, 1, 1), (1,) * 6, (1, 1, 1, 1, -1), ()):
            self.check_refused(NoFall, RULES, weight, 3)
            self.check_refused(NoFall, [], weight, 3)

    def test_no_fall_goes_ahead_of_all_else(self):
        crowd = chain_rule("a", "b" * 65)
        self.check_refused(NoFall, [crowd, crowd], ONES, 3)
        with self.assertRaises(NoFall):
            complete(WIDES, [VANISH] + [M_VANISH] * 3 + [N_VANISH] * 3, (1, 1, 1, 0, 1), 3)
        # Stuck by the first overlap, if the last rule fell.
        self.check_refused(NoFall, [chain_rule("a", "b"), chain_rule("a", "c"), chain_rule("d", "d")], weight_of(a=1), 3)

    def test_runs_that_are_refused(self):
        crowd = chain_rule("a", "b" * 65)
        weight = weight_of(a=100, b=1)
        self.check_complete(CHAINS, [crowd], weight, 3, [])
        self.check_refused(TooMany, [crowd, crowd], weight, 3)
        self.check_refused(TooMany, [crowd, chain_rule("a", "b")], weight, 3)
        # At another overlap it ends ahead of that one.
        stuck = [chain_rule("c", "d"), chain_rule("c", "e"), crowd, crowd]
        weight = weight_of(a=100, b=1, c=1)
        self.check_broken(CHAINS, stuck, weight, 3, ("stuck", 0), (0, 1, ((0, 0),)), [], [])
        self.check_refused(TooMany, [crowd, crowd] + stuck[:2], weight, 3)
        # A hundred rows and one more.
        slow = [chain_rule("b", "c"), chain_rule("c", "d"), chain_rule("a", "b" * 50), chain_rule("a", "d" * 50)]
        weight = weight_of(a=200, b=2, c=1)
        told = self.check_complete(CHAINS, slow, weight, 0, [])
        self.assertEqual([len(rows) for rows in told[3][0][1:3]], [100, 0])
        slow[2:] = [chain_rule("a", "b" * 51), chain_rule("a", "d" * 51)]
        self.check_refused(TooMany, slow, weight, 0)

    def test_a_run_by_an_added_rule_that_is_refused(self):
        # c makes d is added; by it the run from the fifth rule's outcome has a hundred rows, or one more.
        rules = [chain_rule("a", "b"), chain_rule("a", "c"), chain_rule("b", "d")]
        weight = weight_of(a=3, b=2, c=1, e=200)
        told = self.check_complete(CHAINS, rules, weight, 1, [chain_rule("c", "d")])
        self.assertEqual(told[3][0][:3], ((0, 1, ((0, 0),)), [(2, (0,))], [(3, (0,))]))
        for many, refused in ((50, False), (51, True)):
            # Each b makes a c, and this a d by the rule that is added.
            rules = [chain_rule("a", "c"), chain_rule("a", "d"), chain_rule("b", "c")]
            rules += [chain_rule("e", "b" * many), chain_rule("e", "d" * many)]
            if refused:
                self.check_refused(TooMany, rules, weight, 1)
            else:
                told = self.check_complete(CHAINS, rules, weight, 1, [chain_rule("c", "d")])
                self.assertEqual([len(rows) for rows in told[3][1][1:3]], [100, 0])

    def test_nothing_is_changed_and_all_lists_are_the_askers_own(self):
        rules = list(RULES)
        told = complete(CHAINS, rules, ONES, 4)
        again = copy.deepcopy(told)
        told[1].clear()
        for road in told[2]:
            road.append(None)
        for meet in told[3]:
            meet[1].append(None)
            self.assertNotIn(None, meet[2])
            meet[2].append(None)
        told[2].clear()
        told[3].clear()
        self.assertEqual(rules, RULES)
        self.assertEqual(complete(CHAINS, rules, ONES, 4), again)
        broken = complete(CHAINS, rules, ONES, 3)
        broken[4].append(None)
        self.assertEqual(broken[5], [(0, (0, 1))])
        self.assertEqual(complete(CHAINS, rules, ONES, 3)[4:6], ([], [(0, (0, 1))]))


# Kinds whose boxes can be in a row in two ways, by m and by n.
WIDES = read_stock([kind + " = +m -m +n -n" for kind in "klqtz"])
# k, l, q and z weigh 1, t weighs 2.
WIDE_WEIGHT = (1, 1, 1, 2, 1)


def by_m(word):
    """Three boxes in a row by m, the n of each one free."""
    first, second, third = word
    return read_net(WIDES, f"{first} a b c d, {second} b e f g, {third} e h i j"
                           " ; -m a, +m h, -n c, +n d, -n f, +n g, -n i, +n j ; -")


def by_n(word):
    """Three boxes in a row by n, the m of each one free."""
    first, second, third = word
    return read_net(WIDES, f"{first} a b c d, {second} e f d g, {third} h i g j"
                           " ; -m a, +m b, -m e, +m f, -m h, +m i, -n c, +n j ; -")


M_WIRES = read_net(WIDES, "- ; -m a, +m a, -n c, +n c, -n f, +n f, -n i, +n i ; -")
N_WIRES = read_net(WIDES, "- ; -m a, +m a, -m e, +m e, -m h, +m h, -n c, +n c ; -")
T_BOX = read_net(WIDES, "t a b c d ; -m a, +m b, -n c, +n d ; -")
VANISH = rule_of(T_BOX, read_net(WIDES, "- ; -m a, +m a, -n c, +n c ; -"))
M_VANISH = rule_of(by_m("ttt"), M_WIRES)
N_VANISH = rule_of(by_n("ttt"), N_WIRES)


def m_leave(word):
    return rule_of(by_m("ttt"), by_m(word))


def n_leave(word):
    return rule_of(by_n("ttt"), by_n(word))


class ManyOverlapsTest(unittest.TestCase):
    """Each row of three has four overlaps with itself, eight with a like one, 33 with one of the other way."""

    def told(self, rules, most, weight=WIDE_WEIGHT):
        return complete(WIDES, rules, weight, most)

    def check_refused(self, rules, most):
        with self.assertRaises(TooMany):
            self.told(rules, most)

    def test_the_samples(self):
        for rules, many in (
            ([VANISH], 0), ([M_VANISH], 4), ([M_VANISH] * 2, 16), ([M_VANISH, N_VANISH], 41), ([VANISH, N_VANISH], 7),
        ):
            self.assertEqual(len(overlaps(rules)), many)

    def test_fewer_than_three_hundred(self):
        # 15 with the vanishing one, 20 of each with itself, 24 and 8 of like ones, 6 times 33.
        rules = [VANISH] + [M_VANISH] * 3 + [N_VANISH] * 2
        told = self.told(rules, 0)
        self.assertEqual((told[:3], len(told[3])), (("complete", [], []), 265))

    def test_three_hundred_and_one_more(self):
        # As in the tests of joins; these are more rules than six, which is refused nowhere.
        one = rule("neg a b ; -n a, +n b ; -", "- ; -n a, +n a ; -")
        two = rule("neg a b, neg b c ; -n a, +n c ; -", "- ; -n a, +n a ; -")
        three = rule("neg a b, neg b c, neg c d ; -n a, +n d ; -", "- ; -n a, +n a ; -")
        other = rule("add a b c ; -n a, -n b, +n c ; -", "one a ; -n a, -n b, +n b ; -")
        rules = [one] + [two] * 5 + [three] * 5 + [other]
        told = complete(STOCK, rules, (1, 0, 0, 1, 0, 0), 0)
        self.assertEqual((told[:3], len(told[3])), (("complete", [], []), 300))
        with self.assertRaises(TooMany):
            complete(STOCK, rules + [other], (1, 0, 0, 1, 0, 0), 0)

    def test_more_than_three_hundred_at_a_rule_of_those_at_first(self):
        # 18 with the vanishing one, 24 of each with itself, 24 and 24 of like ones, 9 times 33.
        rules = [VANISH] + [M_VANISH] * 3 + [N_VANISH] * 3
        self.assertEqual(len(overlaps(rules)), 387)
        self.check_refused(rules, 0)
        self.check_refused(rules, 12)

    def test_it_is_refused_when_that_rules_turn_comes(self):
        # Ahead of the last rule's turn the row of kkl, and the wires, are told.
        rules = [VANISH, m_leave("kkl")] + [M_VANISH] * 2 + [N_VANISH] * 3
        self.assertEqual(len(overlaps(rules)), 387)
        told = self.told(rules, 0)
        self.assertEqual((told[0], told[1], told[3]), ("more", [], (0, 1, ((0, 0),))))
        self.check_refused(rules, 1)
        # By equal weights it is stuck there.
        told = self.told(rules, 1, (0, 0, 0, 1, 0))
        self.assertEqual((told[0], told[1], told[3]), ("stuck", [], (0, 1, ((0, 0),))))

    def test_more_than_three_hundred_at_an_added_rule(self):
        # Four rows are made to vanish by rules that are added. Those by m share nothing with one another nor with
        # themselves; the one by n has 4 overlaps with itself and 12 with each of the others: 265 and 40.
        rules = [VANISH, m_leave("kkl"), m_leave("kkq"), m_leave("kkz"), n_leave("kkk"), N_VANISH]
        self.assertEqual(len(overlaps(rules)), 265)
        self.check_refused(rules, 4)
        self.check_refused(rules, 12)
        # Where the last one may not be added, this is told: its overlap is one of those at first.
        told = self.told(rules, 3)
        self.assertEqual((told[0], told[3]), ("more", (0, 4, ((0, 0),))))
        self.assertEqual([left[1] for left, _ in told[1]], [tuple("kkl"), tuple("kkq"), tuple("kkz")])
        self.assertEqual(len(overlaps(rules + told[1])), 265)

    def test_fewer_at_an_added_rule(self):
        # 176, and 28: now it is come to the first overlap of the last rule, whose ends weigh the same.
        rules = [VANISH, m_leave("kkl"), m_leave("kkq"), n_leave("kkk"), N_VANISH]
        self.assertEqual(len(overlaps(rules)), 176)
        told = self.told(rules, 3)
        self.assertEqual((told[0], len(told[1]), told[3]), ("stuck", 3, (5, 7, ((0, 0),))))
        self.assertEqual(len(overlaps(rules + told[1])), 204)


class CompleteRulesTest(unittest.TestCase):
    """Complete rules join, and words come to one word by them just where a road by the rules at first joins them."""

    PAIRS = (
        (("ab", "c"), ("ba", "")), (("aa", "b"), ("ab", "")), (("ab", ""), ("ba", ""), ("bb", "a")),
        (("ab", "b"), ("ba", "a")), (("aab", ""), ("ba", "c")), (("aa", "a"), ("bb", "b")), (("abc", ""), ("ca", "b")),
    )

    def groups(self, pairs, most):
        """For each word of the letters up to so many the least one to which a road leads over words as long."""
        words = ["".join(word) for many in range(most + 1) for word in itertools.product("abc", repeat=many)]
        names = {}
        for word in words:
            if word not in names:
                names[word] = word
                heap = [word]
                while heap:
                    for other in self.beside(pairs, heap.pop(), most):
                        if other not in names:
                            names[other] = word
                            heap.append(other)
        return names

    def beside(self, pairs, word, most):
        found = []
        for left, right in list(pairs) + [pair[::-1] for pair in pairs]:
            for at in range(len(word) - len(left) + 1):
                if word[at:at + len(left)] == left:
                    found.append(word[:at] + right + word[at + len(left):])
        return [other for other in found if len(other) <= most]

    def test_words(self):
        complete_ones = 0
        for pairs in self.PAIRS:
            rules = [chain_rule(*pair) for pair in pairs]
            told = complete(CHAINS, rules, (2, 2, 1, 1, 1), 12)
            if told[0] != "complete":
                continue
            complete_ones += 1
            grown = rules + told[1]
            self.assertEqual(joins(CHAINS, grown)[0], "joins")
            names = self.groups(pairs, 7)
            short = [word for word in names if len(word) <= 4]
            ends = {word: word_of(run(grown, chain(word))[0]) for word in short}
            for one, other in itertools.combinations(short, 2):
                self.assertEqual(ends[one] == ends[other], names[one] == names[other], (pairs, one, other))
        self.assertGreater(complete_ones, 3)

    def test_by_chance(self):
        chance = random.Random(44)
        words = {"complete": 0, "stuck": 0, "more": 0}
        added = 0
        for _ in range(150):
            weight = tuple(chance.randint(0, 3) for _ in CHAINS)
            rules = []
            while len(rules) < 3:
                left = "".join(chance.choice("abc") for _ in range(chance.randint(1, 3)))
                right = "".join(chance.choice("abc") for _ in range(chance.randint(0, 3)))
                if not any(weight[:3]):
                    break
                if falls(CHAINS, weight, chain_rule(left, right)):
                    rules.append(chain_rule(left, right))
            most = chance.randint(0, 6)
            told = complete(CHAINS, rules, weight, most)
            words[told[0]] += 1
            if told[0] == "complete":
                added += len(told[1])
                self.assertEqual(joins(CHAINS, rules + told[1])[0], "joins")
            else:
                grown = rules + told[1]
                ends = [end_of(grown, one, rows) for one, rows in zip(outcomes(CHAINS, grown, told[3]), told[4:6])]
                weights = [weighs(CHAINS, weight, end) for end in ends]
                self.assertEqual(len(told[1]) == most or told[0] == "stuck", True)
                self.assertIsNone(naming_of(*ends))
                self.assertFalse(told[0] == "more" and weights[0] == weights[1])
        self.assertGreater(min(words.values()), 5)
        self.assertGreater(added, 10)

    def test_by_the_weight_told_of_the_rules(self):
        for rules in ([], RULES, [chain_rule("aa", "b"), chain_rule("ab", "")]):
            word, weight = weighed(CHAINS, rules)
            self.assertEqual(word, "weight")
            self.assertIn(complete(CHAINS, rules, weight, 12)[0], ("complete", "stuck", "more"))


if __name__ == "__main__":
    unittest.main()
