"""Nets at rest, and runs to rest [24]."""

import copy
import random
import unittest

from tests.samples import EMPTY, STOCK, THROUGH, net, rule, some_full_net, some_rules
from weave.ends import at_rest, run
from weave.errors import TooMany
from weave.laying import laid
from weave.nets import is_net
from weave.places import places_of
from weave.rows import walked


NEG = "neg a b ; -n a, +n b ; -"
UNDO = rule("neg a b, neg b c ; -n a, +n c ; -", "- ; -n a, +n a ; -")
VANISH = rule(NEG, "- ; -n a, +n a ; -")
BREAK = rule(NEG, "one a, cut b ; -n a, +n b ; -")
KEEP = rule(NEG, NEG)
MEET = rule("one a, cut a ; - ; -", "- ; - ; -")
OPEN_LOOP = rule("neg a a ; - ; -", "one a, cut a ; - ; -")


def loops(many):
    """A net of so many negs, each joined to itself."""
    return ((), ("neg",) * many, tuple(((box, 0), (box, 1)) for box in range(many)), ())


def loops_and_pair(many):
    """Such a net, and a one and a cut behind, joined to one another."""
    wires = loops(many)[2] + (((many, 0), (many + 1, 0)),)
    return ((), ("neg",) * many + ("one", "cut"), wires, ())


def to_loops(many):
    """A rule that makes so many negs, each joined to itself, of a one and a cut."""
    return (MEET[0], loops(many))


class AtRestTest(unittest.TestCase):
    def test_no_rule_has_a_place(self):
        for told in (EMPTY, THROUGH, loops(3)):
            self.assertIs(at_rest([], told), True)
        self.assertIs(at_rest([UNDO, MEET], net(NEG)), True)
        self.assertIs(at_rest([UNDO, MEET], net("one a, cut b ; -n a, +n b ; -")), True)
        self.assertIs(at_rest([UNDO], loops(3)), True)

    def test_some_rule_has_one(self):
        self.assertIs(at_rest([UNDO, MEET, VANISH], net(NEG)), False)
        self.assertIs(at_rest([UNDO, MEET], net("cut a, one a ; - ; -")), False)
        self.assertIs(at_rest([MEET, UNDO], net("one x, neg a b, cut y, neg c a ; -n c, +n b, -n x, +n y ; -")), False)
        self.assertIs(at_rest([KEEP], loops(70)), False)

    def test_of_larger_nets_than_runs_may_have(self):
        self.assertIs(at_rest([MEET], loops(70)), True)


class RunTest(unittest.TestCase):
    def check_refused(self, rules, told):
        with self.assertRaises(TooMany):
            run(rules, told)

    def test_at_rest_at_once(self):
        for told in (EMPTY, THROUGH, loops(5)):
            self.assertEqual(run([], told), (told, []))
            self.assertEqual(run([UNDO], told), (told, []))

    def test_the_first_rule_at_its_first_place(self):
        told = net("neg a b, neg b c, neg c d, neg d e, neg e f ; -n a, +n f ; -")
        self.assertEqual(run([UNDO], told), (net(NEG), [(0, (0, 1)), (0, (0, 1))]))
        self.assertEqual(run([UNDO, BREAK], told),
                         (net("one a, cut b ; -n a, +n b ; -"), [(0, (0, 1)), (0, (0, 1)), (1, (0,))]))
        self.assertEqual(run([VANISH, UNDO], told), (net("- ; -n a, +n a ; -"), [(0, (0,))] * 5))
        # From right to left the pairs are (1, 0), (2, 1): the first place is the least one.
        turned = net("neg c d, neg b c, neg a b ; -n a, +n d ; -")
        self.assertEqual(run([UNDO], turned), (net(NEG), [(0, (1, 0))]))

    def test_back_to_the_first_rule_each_time(self):
        told = net("neg a a, neg b b ; - ; -")
        rows = [(1, (0,)), (0, (1, 2)), (1, (0,)), (0, (0, 1))]
        self.assertEqual(run([MEET, OPEN_LOOP], told), (EMPTY, rows))
        rows = [(0, (0,)), (0, (0,)), (1, (0, 1)), (1, (0, 1))]
        self.assertEqual(run([OPEN_LOOP, MEET], told), (EMPTY, rows))

    def test_a_hundred_rows(self):
        end, rows = run([MEET, OPEN_LOOP], loops(50))
        self.assertEqual((end, len(rows)), (EMPTY, 100))
        end, rows = run([MEET, OPEN_LOOP], loops_and_pair(49))
        self.assertEqual((end, len(rows)), (EMPTY, 99))

    def test_one_more(self):
        self.check_refused([MEET, OPEN_LOOP], loops_and_pair(50))
        self.check_refused([MEET, OPEN_LOOP], loops(51))
        self.check_refused([KEEP], net(NEG))

    def test_sixty_four_boxes(self):
        for told in (loops(64), loops_and_pair(62)):
            self.assertEqual(run([], told), (told, []))
        self.assertEqual(run([MEET], loops_and_pair(62)), (loops(62), [(0, (62, 63))]))
        self.assertEqual(run([to_loops(64)], MEET[0]), (loops(64), [(0, (0, 1))]))
        self.assertEqual(run([to_loops(32)], loops_and_pair(32)), (loops(64), [(0, (32, 33))]))

    def test_sixty_five_boxes_at_first(self):
        self.check_refused([], loops(65))
        self.check_refused([MEET], loops(65))
        self.check_refused([MEET], loops_and_pair(63))
        self.check_refused([VANISH], loops(65))
        self.check_refused([], loops(120))

    def test_sixty_five_boxes_on_the_way(self):
        self.check_refused([to_loops(65)], MEET[0])
        self.check_refused([to_loops(65), VANISH], MEET[0])
        self.check_refused([to_loops(33)], loops_and_pair(32))
        # All loops are opened first: 33 of them make 66 boxes on the way, 32 make 64.
        self.check_refused([OPEN_LOOP, MEET], loops(33))
        end, rows = run([OPEN_LOOP, MEET], loops(32))
        self.assertEqual((end, len(rows)), (EMPTY, 64))

    def test_runs_as_told(self):
        chance = random.Random(35)
        refused = 0
        for _ in range(150):
            told = some_full_net(chance, 6)
            rules, _ = some_rules(chance, told, 2)
            before = copy.deepcopy(rules)
            end, rows = self.run_as_told(rules, told)
            if end is None:
                refused += 1
                self.check_refused(rules, told)
                continue
            self.assertEqual(run(rules, told), (end, rows))
            self.assertIs(at_rest(rules, end) and is_net(STOCK, end), True)
            self.assertEqual(([told] + walked(rules, told, rows))[-1], end)
            self.assertEqual(rules, before)
        self.assertTrue(10 < refused < 140)

    def run_as_told(self, rules, told):
        rows = []
        while len(told[1]) <= 64:
            places = [(number, place) for number, (left, _) in enumerate(rules) for place in places_of(told, left)]
            if not places:
                return told, rows
            if len(rows) == 100:
                break
            rows.append(min(places))
            told = laid(told, rules[rows[-1][0]], rows[-1][1])
        return None, None

    def test_the_rows_are_the_askers_own(self):
        told = net("neg a b, neg b c ; -n a, +n c ; -")
        run([UNDO], told)[1].append(None)
        run([], told)[1].append(None)
        self.assertEqual(run([UNDO], told)[1], [(0, (0, 1))])
        self.assertEqual(run([], told)[1], [])


if __name__ == "__main__":
    unittest.main()
