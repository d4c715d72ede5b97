"""Whether a list of rules joins [25], [3]."""

import copy
import random
import unittest

from tests.samples import STOCK, net_with_outers, pattern_in, rule, some_full_net, some_net
from weave.alike import is_naming, naming_of
from weave.ends import at_rest, run
from weave.errors import TooMany
from weave.glued import glued, outcomes
from weave.joins import joins
from weave.laying import laid
from weave.overlaps import overlaps
from weave.places import places_of
from weave.rows import walked
from weave.unlike import shows_unlike
from weave.weights import falls, shows_weighed


NEG = "neg a b ; -n a, +n b ; -"
WIRE = "- ; -n a, +n a ; -"
CUT_OFF = "one a, cut b ; -n a, +n b ; -"
UNDO = rule("neg a b, neg b c ; -n a, +n c ; -", WIRE)
UNDO_THREE = rule("neg a b, neg b c, neg c d ; -n a, +n d ; -", WIRE)
VANISH = rule(NEG, WIRE)
BREAK = rule(NEG, CUT_OFF)
KEEP = rule(NEG, "neg a b ; -n a, +n b ; n 1")
MEET = rule("one a, cut a ; - ; -", "- ; - ; -")
PASS_ON = rule("add a b c ; -n a, -n b, +n c ; -", "one a ; -n a, -n b, +n b ; -")
PASS_OTHER = rule("add a b c ; -n a, -n b, +n c ; -", "one b ; -n a, -n b, +n a ; -")
# Of a neg comes a wire, and beside it many boxes at rest.
CROWD = (VANISH[0], (
    VANISH[0][0], ("one", "cut") * 33,
    (((-1, 0), (-1, 1)),) + tuple(((at, 0), (at + 1, 0)) for at in range(0, 66, 2)), (),
))


def end_of(rules, told, rows):
    return ([told] + walked(rules, told, rows))[-1]


class JoinsTest(unittest.TestCase):
    def check_joins(self, rules, meets):
        """What is told but for the weight, which is any by which all rules fall, and the namings."""
        word, weight, found = joins(STOCK, rules)
        self.assertEqual(word, "joins")
        self.assertTrue(all(falls(STOCK, weight, told) for told in rules))
        self.assertIs(shows_weighed(STOCK, rules, ("weight", weight)), True)
        self.assertIsInstance(found, list)
        if meets is not None:
            self.assertEqual([meet[:3] for meet in found], meets)
        self.assertEqual([meet[0] for meet in found], overlaps(rules))
        for overlap, rows, other_rows, naming in found:
            one, other = outcomes(STOCK, rules, overlap)
            self.assertEqual((run(rules, one)[1], run(rules, other)[1]), (rows, other_rows))
            self.assertIs(is_naming(end_of(rules, one, rows), end_of(rules, other, other_rows), naming), True)
        return found

    def check_parts(self, rules, overlap, rows, other_rows):
        told = joins(STOCK, rules)
        self.assertEqual(told[:4], ("parts", overlap, rows, other_rows))
        self.assertEqual(len(told), 5)
        one, other = outcomes(STOCK, rules, overlap)
        ends = end_of(rules, one, rows), end_of(rules, other, other_rows)
        self.assertTrue(at_rest(rules, ends[0]) and at_rest(rules, ends[1]))
        self.assertIs(shows_unlike(STOCK, ends[0], ends[1], told[4]), True)

    def check_open(self, rules):
        told = joins(STOCK, rules)
        self.assertEqual((len(told), told[0]), (2, "open"))
        self.assertIs(shows_weighed(STOCK, rules, ("none", told[1])), True)

    def check_refused(self, rules):
        with self.assertRaises(TooMany):
            joins(STOCK, rules)

    def test_no_rules(self):
        self.check_joins([], [])

    def test_rules_without_overlaps(self):
        self.check_joins([BREAK], [])
        # The lefts have no kind in common, and of a one with its cut there is no other sharing than with itself.
        self.check_joins([BREAK, MEET, PASS_ON], [])

    def test_outcomes_that_are_alike_at_once(self):
        found = self.check_joins([UNDO], [((0, 0, ((0, 1),)), [], []), ((0, 0, ((0, 1), (1, 0))), [], [])])
        self.assertEqual([meet[3] for meet in found], [(0,), ()])

    def test_outcomes_that_are_run_to_rest(self):
        # Of the chain of three one neg is left either way; of the chain of two none, or one.
        self.check_joins([UNDO, VANISH], [
            ((0, 0, ((0, 1),)), [(1, (0,))], [(1, (0,))]), ((0, 0, ((0, 1), (1, 0))), [], []),
            ((0, 1, ((0, 0),)), [], [(1, (0,))]), ((0, 1, ((1, 0),)), [], [(1, (0,))]),
        ])
        self.check_joins([VANISH, UNDO_THREE], None)

    def test_namings_of_boxes(self):
        # The right's boxes stand in another order.
        rules = [BREAK, rule(NEG, "cut b, one a ; -n a, +n b ; -")]
        found = self.check_joins(rules, [((0, 1, ((0, 0),)), [], [])])
        self.assertEqual(found[0][3], (1, 0))

    def test_rules_that_part_at_once(self):
        self.check_parts([VANISH, BREAK], (0, 1, ((0, 0),)), [], [])
        self.check_parts([PASS_ON, MEET, PASS_OTHER], (0, 2, ((0, 0),)), [], [])

    def test_rules_that_part_behind_runs(self):
        # The chain of two vanishes, or its first box is broken and then the other one, too.
        self.check_parts([UNDO, BREAK], (0, 1, ((0, 0),)), [], [(1, (0,))])
        self.check_parts([BREAK, UNDO], (0, 1, ((0, 0),)), [(0, (0,))], [])
        self.check_parts([BREAK, MEET, UNDO], (0, 2, ((0, 0),)), [(0, (0,)), (1, (2, 1))], [])

    def test_the_first_overlap_whose_ends_are_unlike(self):
        # Rules 0 and 1 go together; rule 2 parts from rule 0, and from rule 1, too.
        self.check_parts([VANISH, UNDO, BREAK], (0, 2, ((0, 0),)), [], [])
        # Rules 0 and 1 part, and two others, too.
        self.check_parts([PASS_ON, PASS_OTHER, VANISH, BREAK], (0, 1, ((0, 0),)), [], [])
        self.check_parts([VANISH, PASS_ON, BREAK, PASS_OTHER], (0, 2, ((0, 0),)), [], [])

    def test_rings_part(self):
        ringed = rule(NEG, "- ; -n a, +n a ; n 1")
        self.check_parts([VANISH, ringed], (0, 1, ((0, 0),)), [], [])
        # A neg joined to itself vanishes in a ring by either rule, or in none by the first one.
        self.check_joins([rule("neg a a ; - ; -", "- ; - ; n 1"), VANISH], [((0, 1, ((0, 0),)), [], [])])
        self.check_parts([rule("neg a a ; - ; -", "- ; - ; -"), VANISH], (0, 1, ((0, 0),)), [], [])

    def test_open(self):
        self.check_open([KEEP])
        self.check_open([UNDO, KEEP])
        self.check_open([VANISH, BREAK, KEEP])
        self.check_open([BREAK, rule("one a, cut a ; - ; -", "neg a a ; - ; -")])

    def test_open_goes_ahead_of_too_many(self):
        self.check_open([UNDO_THREE] * 12 + [KEEP])
        self.check_open([VANISH, CROWD, KEEP])

    def test_three_hundred_overlaps_and_one_more(self):
        # 10 of the chains of two each with itself, 40 of two of them, 10 with the neg; 20 of the chains of three each
        # with itself, 80 of two of them, 125 with the chains of two, 15 with the neg.
        rules = [VANISH] + [UNDO] * 5 + [UNDO_THREE] * 5
        self.assertEqual(len(overlaps(rules)), 300)
        self.check_joins(rules, None)
        self.check_joins(rules + [PASS_ON], None)
        self.assertEqual(len(overlaps(rules + [PASS_ON] * 2)), 301)
        self.check_refused(rules + [PASS_ON] * 2)

    def test_too_many_goes_ahead_of_parts(self):
        self.check_refused([VANISH, BREAK] + [UNDO] * 6 + [UNDO_THREE] * 6)

    def test_a_run_that_is_refused(self):
        self.check_joins([CROWD], [])
        self.check_refused([CROWD, CROWD])
        self.check_refused([CROWD, VANISH])
        self.check_refused([VANISH, CROWD])
        # What is told of an overlap ahead of it is told.
        self.check_parts([VANISH, BREAK, CROWD], (0, 1, ((0, 0),)), [], [])
        self.check_refused([VANISH, CROWD, BREAK])

    def test_nothing_is_changed_and_all_lists_are_the_askers_own(self):
        rules = [UNDO, VANISH]
        before = copy.deepcopy(rules)
        told = joins(STOCK, rules)
        again = copy.deepcopy(told)
        for _, rows, other_rows, _ in told[2]:
            rows.append(None)
            self.assertNotIn(None, other_rows)
            other_rows.append(None)
        told[2].clear()
        self.assertEqual(joins(STOCK, rules), again)
        self.assertEqual(rules, before)
        parts = joins(STOCK, [UNDO, BREAK])
        parts[2].append(None)
        parts[3].clear()
        self.check_parts([UNDO, BREAK], (0, 1, ((0, 0),)), [], [(1, (0,))])


class JustWhereTheyDoTest(unittest.TestCase):
    """What is told is so, for rules by chance: of those that join, all rows from nets end in alike nets."""

    def some_rules(self, chance):
        start = some_full_net(chance, 4)
        rules = []
        for _ in range(chance.randint(1, 2)):
            left = pattern_in(chance, start)[0]
            right = net_with_outers(chance, left[0], chance.choice((0, 0, 1)))
            rules.append((left, right))
        return rules

    def end_by_chance(self, chance, rules, told):
        while True:
            rows = [(number, place) for number in range(len(rules)) for place in places_of(told, rules[number][0])]
            if not rows:
                return told
            number, place = chance.choice(rows)
            told = laid(told, rules[number], place)

    def test_what_is_told_is_so(self):
        chance = random.Random(36)
        words = {"joins": 0, "parts": 0, "open": 0}
        for _ in range(250):
            rules = self.some_rules(chance)
            told = joins(STOCK, rules)
            words[told[0]] += 1
            if told[0] == "joins":
                for _ in range(5):
                    start = some_net(chance, 7)
                    ends = [self.end_by_chance(chance, rules, start) for _ in range(3)]
                    self.assertTrue(all(naming_of(ends[0], end) is not None for end in ends))
            if told[0] == "parts":
                start, place, other = glued(STOCK, rules, told[1])
                ends = []
                for number, at, rows in zip(told[1][:2], (place, other), told[2:4]):
                    ends.append(end_of(rules, laid(start, rules[number], at), rows))
                self.assertTrue(all(at_rest(rules, end) for end in ends))
                self.assertIsNone(naming_of(*ends))
        self.assertGreater(min(words.values()), 20)


if __name__ == "__main__":
    unittest.main()
