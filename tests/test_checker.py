"""The small checker of what joins tells [26], [27], [3]."""

import copy
import random
import unittest

from tests.samples import (
    ANYTHING, CHAINS, DEEP, STOCK, bends, chain, chain_rule, net_with_outers, pattern_in, rule, some_full_net,
)
from weave import checker
from weave.checker import lets_by
from weave.glued import outcomes
from weave.joins import joins
from weave.overlaps import overlaps
from weave.rules import rule_of
from weave.texts import read_net

NEG = "neg a b ; -n a, +n b ; -"
WIRE = "- ; -n a, +n a ; -"
UNDO = rule("neg a b, neg b c ; -n a, +n c ; -", WIRE)
VANISH = rule(NEG, WIRE)
BREAK = rule(NEG, "one a, cut b ; -n a, +n b ; -")
KEEP = rule(NEG, "neg a b ; -n a, +n b ; n 1")
MEND = rule("one a, cut a ; - ; -", "neg a a ; - ; -")

JOINING = [UNDO, VANISH]
ONLY_NEG = (0, 0, 0, 1, 0, 0)
# Of three negs two vanish and then the one left; of two in a round a ring is left; of two, both or one by one.
MEETS = [
    ((0, 0, ((0, 1),)), [(1, (0,))], [(1, (0,))], ()),
    ((0, 0, ((0, 1), (1, 0))), [], [], ()),
    ((0, 1, ((0, 0),)), [], [(1, (0,))], ()),
    ((0, 1, ((1, 0),)), [], [(1, (0,))], ()),
]
JOINS = ("joins", ONLY_NEG, MEETS)

# Two negs vanish, or one is broken and then the other one: the outers are joined, or each has a box.
PARTING = [UNDO, BREAK]
PARTS = ("parts", (0, 1, ((0, 0),)), [], [(1, (0,))], ("wire", 0, 1))

# A neg makes a one and a cut, these make a neg.
OPENING = [BREAK, MEND]
OPEN = ("open", (1, 1))


def set_at(thing, path, other):
    """The thing with another one at a path."""
    if not path:
        return other
    at = path[0]
    return thing[:at] + type(thing)((set_at(thing[at], path[1:], other),)) + thing[at + 1:]


class JoinsPaperTest(unittest.TestCase):
    def check(self, expected, rules, thing):
        self.assertIs(lets_by(STOCK, rules, thing), expected, thing)

    def test_let_by(self):
        self.check(True, JOINING, JOINS)
        self.check(True, [], ("joins", ONLY_NEG, []))
        self.check(True, [], ("joins", (0,) * 6, []))
        self.check(True, [BREAK], ("joins", ONLY_NEG, []))

    def test_nets_that_are_not_at_rest(self):
        # Of three negs either way one is left: alike at once.
        self.check(True, JOINING, set_at(JOINS, (2, 0), ((0, 0, ((0, 1),)), [], [], (0,))))
        self.check(True, [UNDO], ("joins", ONLY_NEG, [((0, 0, ((0, 1),)), [], [], (0,)), MEETS[1]]))
        # Led on by one side only they are not alike.
        self.check(False, JOINING, set_at(JOINS, (2, 0, 1), []))
        self.check(False, JOINING, set_at(JOINS, (2, 0, 2), []))
        self.check(False, JOINING, set_at(JOINS, (2, 0, 3), (0,)))

    def test_other_weights(self):
        for weight in ((0, 0, 0, 2, 0, 0), (1, 2, 3, 4, 5, 6), (7, 0, 0, 10**29, 0, 1)):
            self.check(True, JOINING, ("joins", weight, MEETS))
        for weight in ((1, 1, 1, 0, 1, 1), (0,) * 6, (0, 0, 0, -1, 0, 0), (-1, 0, 0, 1, 0, 0), (0, 0, 0, 1, 0), ()):
            self.check(False, JOINING, ("joins", weight, MEETS))
        # By this one BREAK does not fall.
        self.check(False, [BREAK], ("joins", (0, 1, 0, 2, 1, 0), []))
        self.check(True, [BREAK], ("joins", (0, 1, 0, 3, 1, 0), []))

    def test_each_overlap_in_order(self):
        self.check(False, JOINING, ("joins", ONLY_NEG, MEETS[:3]))
        self.check(False, JOINING, ("joins", ONLY_NEG, MEETS[1:]))
        self.check(False, JOINING, ("joins", ONLY_NEG, MEETS + MEETS[3:]))
        self.check(False, JOINING, ("joins", ONLY_NEG, MEETS[:2] + [MEETS[3], MEETS[2]]))
        self.check(False, JOINING, ("joins", ONLY_NEG, MEETS[:3] + MEETS[2:3]))
        self.check(False, JOINING, ("joins", ONLY_NEG, []))

    def test_each_naming_that_is_right(self):
        # Both rights are two negs, each joined to itself: they may be named by one another.
        loops = rule("one a, cut a ; - ; -", "neg a a, neg b b ; - ; -")
        turned = rule("cut a, one a ; - ; -", "neg a a, neg b b ; - ; -")
        for naming, expected in (((0, 1), True), ((1, 0), True), ((0, 0), False), ((0,), False), ((0, 1, 2), False)):
            meet = ((0, 1, ((0, 1), (1, 0))), [], [], naming)
            self.check(expected, [loops, turned], ("joins", (0, 1, 0, 0, 1, 0), [meet]))
        # A cut goes and comes in another order: only the one naming is right.
        other = rule(NEG, "cut b, one a ; -n a, +n b ; -")
        for naming, expected in (((1, 0), True), ((0, 1), False)):
            self.check(expected, [BREAK, other], ("joins", ONLY_NEG, [((0, 1, ((0, 0),)), [], [], naming)]))

    def test_bent_at_one_place(self):
        many = 0
        for path, thing in bends(JOINS):
            falls = False
            if len(path) == 2 and path[0] == 1:
                numbers = thing[1]
                falls = all(type(number) is int and number >= 0 for number in numbers) and numbers[3] >= 1
            self.check(falls, JOINING, thing)
            many += falls
        # One more of any kind falls, too; and no other one.
        self.assertEqual(many, 6)

    def test_rules_that_do_not_join(self):
        # No rows lead the two ends to alike ones.
        meets = [MEETS[0][:1] + ([], [], (0,)), MEETS[1]]
        for rows in ([], [(1, (0,))]):
            for naming in ((), (0,), (0, 1)):
                more = [((0, 1, ((own, 0),)), [], rows, naming) for own in (0, 1)]
                self.check(False, PARTING, ("joins", (0, 0, 0, 1, 0, 0), meets + more))


class PartsPaperTest(unittest.TestCase):
    def check(self, expected, rules, thing):
        self.assertIs(lets_by(STOCK, rules, thing), expected, thing)

    def test_let_by(self):
        self.check(True, PARTING, PARTS)
        self.check(True, [VANISH, BREAK], ("parts", (0, 1, ((0, 0),)), [], [], ("wire", 0, 1)))

    def test_each_overlap_that_parts(self):
        self.check(True, PARTING, set_at(PARTS, (1,), (0, 1, ((1, 0),))))
        # This one's ends are alike, and this is none.
        self.check(False, PARTING, set_at(PARTS, (1,), (0, 0, ((0, 1),))))
        self.check(False, PARTING, set_at(PARTS, (1,), (0, 0, ((0, 0), (1, 1)))))
        self.check(False, PARTING, set_at(PARTS, (1,), (1, 0, ((0, 0),))))
        self.check(False, PARTING, set_at(PARTS, (1,), (0, 2, ((0, 0),))))

    def test_both_nets_are_at_rest(self):
        # Behind one row the second neg is left.
        self.check(False, PARTING, set_at(PARTS, (3,), []))
        self.check(False, [VANISH, BREAK, MEND], ("parts", (0, 1, ((0, 0),)), [], [(2, (0, 1))], ("wire", 0, 1)))

    def test_other_rules_may_not_fall(self):
        # What parts is asked of the two ends alone.
        turn = rule("add a b c ; -n a, -n b, +n c ; -", "add b a c ; -n a, -n b, +n c ; -")
        self.check(True, PARTING + [turn], PARTS)

    def test_each_paper_that_is_right(self):
        one = (("one",), (((-1, 0), (0, 0)),))
        pair = (("one", "cut"), (((0, 0), (1, 0)),))
        for paper in (("part", one, 0, 1), ("part", pair, 0, 1)):
            self.check(True, PARTING, set_at(PARTS, (4,), paper))
        for paper in (
            ("part", one, 1, 0), ("part", pair, 0, 0), ("part", pair, 0, 2), ("part", pair, False, True), ("outers",),
            ("rings",), ("wire", 1, 0), ("wire", 0, 0), ("wire", False, 1), ("wire", 0, True), ["wire", 0, 1], None,
            DEEP, ("part", DEEP, 0, 1), ("wire",), (),
        ):
            self.check(False, PARTING, set_at(PARTS, (4,), paper))

    def test_bent_at_one_place(self):
        # The other overlap of the two rules parts, too, by the same rows.
        allowed = [set_at(PARTS, (1, 2, 0, 0), 1)]
        for _, thing in bends(PARTS):
            same = [thing == told and type(thing[1][2][0][0]) is int for told in allowed]
            self.check(any(same), PARTING, thing)


class OpenPaperTest(unittest.TestCase):
    def check(self, expected, rules, thing):
        self.assertIs(lets_by(STOCK, rules, thing), expected, thing)

    def test_let_by(self):
        self.check(True, OPENING, OPEN)
        self.check(True, OPENING, ("open", (7, 7)))
        self.check(True, OPENING, ("open", (10**29, 10**29)))
        self.check(True, [KEEP], ("open", (1,)))
        self.check(True, [UNDO, KEEP, VANISH], ("open", (0, 3, 0)))

    def test_times_that_do_not_show_it(self):
        for times in ((1, 2), (2, 1), (0, 0), (-1, -1), (1,), (1, 1, 1), (), [1, 1], (True, True), 1):
            self.check(False, OPENING, ("open", times))
        self.check(False, [], ("open", ()))
        self.check(False, [UNDO], ("open", (1,)))
        self.check(False, [UNDO, KEEP], ("open", (1, 1)))

    def test_bent_at_one_place(self):
        for _, thing in bends(OPEN):
            self.check(False, OPENING, thing)


class AnythingTest(unittest.TestCase):
    def test_of_anything(self):
        for rules in ([], JOINING, PARTING, OPENING):
            for thing in ANYTHING:
                self.assertIs(lets_by(STOCK, rules, thing), False)
                for word in ("joins", "parts", "open", "weight", "none"):
                    for paper in ((word,), (word, thing), (word, thing, thing), (word, thing, thing, thing, thing)):
                        self.assertIs(lets_by(STOCK, rules, paper), False)

    def test_what_weighed_tells_is_no_paper(self):
        self.assertIs(lets_by(STOCK, OPENING, ("none", (1, 1))), False)
        self.assertIs(lets_by(STOCK, JOINING, ("weight", ONLY_NEG)), False)

    def test_it_neither_runs_nor_seeks(self):
        for word in ("run", "naming_of", "unlike_of", "weighed", "joins", "places_of"):
            self.assertFalse(hasattr(checker, word))

    def test_nothing_is_changed(self):
        for rules, paper in ((JOINING, JOINS), (PARTING, PARTS), (OPENING, OPEN)):
            before = copy.deepcopy((rules, paper))
            self.assertIs(lets_by(STOCK, rules, paper), True)
            self.assertEqual((rules, paper), before)


class LetByJoinsTest(unittest.TestCase):
    """Whatever joins tells is let by."""

    def test_of_samples(self):
        words = []
        for rules in ([], JOINING, PARTING, OPENING, [VANISH, BREAK], [VANISH] + [UNDO] * 5, [KEEP], [BREAK, UNDO]):
            told = joins(STOCK, rules)
            words.append(told[0])
            self.assertIs(lets_by(STOCK, rules, told), True)
        self.assertEqual(words, ["joins", "joins", "parts", "open", "parts", "joins", "open", "parts"])

    def test_of_three_hundred_overlaps(self):
        three = rule("neg a b, neg b c, neg c d ; -n a, +n d ; -", WIRE)
        rules = [VANISH] + [UNDO] * 5 + [three] * 5
        self.assertEqual(len(overlaps(rules)), 300)
        self.assertIs(lets_by(STOCK, rules, joins(STOCK, rules)), True)

    def test_of_long_runs(self):
        # Sixty-four boxes come of one, and are led on one by one.
        rules = [chain_rule("b", "c"), chain_rule("a", "b" * 64), chain_rule("a", "c" * 64)]
        told = joins(CHAINS, rules)
        self.assertEqual((told[0], [len(rows) for rows in told[2][0][1:3]]), ("joins", [64, 0]))
        self.assertIs(lets_by(CHAINS, rules, told), True)
        short = [(told[2][0][0], told[2][0][1][:63]) + told[2][0][2:]]
        self.assertIs(lets_by(CHAINS, rules, told[:2] + (short,)), False)

    def test_by_chance(self):
        chance = random.Random(41)
        words = {"joins": 0, "parts": 0, "open": 0}
        for _ in range(150):
            start = some_full_net(chance, 4)
            rules = []
            for _ in range(chance.randint(1, 3)):
                left = pattern_in(chance, start)[0]
                rules.append((left, net_with_outers(chance, left[0], chance.choice((0, 0, 1)))))
            told = joins(STOCK, rules)
            words[told[0]] += 1
            self.assertIs(lets_by(STOCK, rules, told), True)
            self.check_other_words(rules, told)
        self.assertGreater(min(words.values()), 10)

    def check_other_words(self, rules, told):
        """None of the other two kinds of papers is let by: rules that join do not part, and are not open."""
        for word in {"joins", "parts", "open"} - {told[0]}:
            self.assertIs(lets_by(STOCK, rules, (word,) + told[1:]), False)
        if told[0] == "joins":
            for overlap in overlaps(rules):
                one, other = outcomes(STOCK, rules, overlap)
                for paper in (("outers",), ("rings",), ("wire", 0, 1)):
                    self.assertIs(lets_by(STOCK, rules, ("parts", overlap, [], [], paper)), False)


class LetByIsSoTest(unittest.TestCase):
    """What is let by that it parts has a net with two unlike ends [27]."""

    def test_rings_part(self):
        ringed = rule_of(VANISH[0], read_net(STOCK, "- ; -n a, +n a ; n 1"))
        rules = [VANISH, ringed]
        self.assertIs(lets_by(STOCK, rules, ("parts", (0, 1, ((0, 0),)), [], [], ("rings",))), True)
        self.assertIs(lets_by(STOCK, rules, ("parts", (0, 1, ((0, 0),)), [], [], ("wire", 0, 1))), False)
        self.assertIs(lets_by(STOCK, rules, ("joins", ONLY_NEG, [((0, 1, ((0, 0),)), [], [], ())])), False)

    def test_words_part(self):
        # ab makes c, ba makes nothing: bab comes to bc, and to b.
        rules = [chain_rule("ab", "c"), chain_rule("ba", "")]
        # The net of the overlap has the outer +n first, as port 1 of box 1 stands ahead of port 0 of box 2.
        bc = (("b", "c"), (((-1, 0), (1, 1)), ((-1, 1), (0, 0)), ((0, 1), (1, 0))))
        paper = ("part", bc, 1, 0)
        self.assertEqual(outcomes(CHAINS, rules, (0, 1, ((0, 1),)))[0][1:3], bc)
        self.assertEqual(outcomes(CHAINS, rules, (0, 1, ((0, 1),)))[1][1], chain("b")[1])
        self.assertIs(lets_by(CHAINS, rules, ("parts", (0, 1, ((0, 1),)), [], [], paper)), True)


if __name__ == "__main__":
    unittest.main()
