"""The net of an overlap and its outcomes [22], and what overlaps are worth [23], [3]."""

import copy
import itertools
import random
import unittest

from tests.samples import STOCK, net, rule, some_full_net, some_rules
from weave.alike import naming_of
from weave.glued import glued, outcomes
from weave.laying import laid
from weave.nets import is_net
from weave.overlaps import overlaps, shared, sharings
from weave.parts import together
from weave.places import is_place, places_of


UNDO = rule("neg a b, neg b c ; -n a, +n c ; -", "- ; -n a, +n a ; -")
BREAK = rule("neg a b ; -n a, +n b ; -", "one a, cut b ; -n a, +n b ; -")
# Outers in another order than the ports.
FORK = rule("add a b c, dup c d e ; +n e, -n b, +n d, -n a ; -", "- ; +n a, -n a, +n b, -n b ; -")
MERGE = rule("neg x y, dup y b c, add b c d ; +n d, -n x ; -", "neg a b ; +n b, -n a ; n 2")
LOOSE = rule("dup y b c, add b e d ; +n d, -n y, +n c, -n e ; -", "- ; +n a, -n b, +n b, -n a ; -")


class GluedTest(unittest.TestCase):
    def check(self, rules, overlap, text, place, other, made, other_made):
        self.assertIn(overlap, overlaps(rules))
        self.assertEqual(glued(STOCK, rules, overlap), (net(text), place, other))
        self.assertEqual(outcomes(STOCK, rules, overlap), (net(made), net(other_made)))

    def test_a_chain_with_itself(self):
        # Box 0 is the last of the other place, whose first one stands behind: box 2, and the free ports are (1, 1), (2, 0).
        self.check([UNDO], (0, 0, ((0, 1),)), "neg c a, neg a b, neg d c ; +n b, -n d ; -", (0, 1), (2, 0),
                   "neg d b ; +n b, -n d ; -", "neg d b ; +n b, -n d ; -")

    def test_a_ring_without_outers(self):
        self.check([UNDO], (0, 0, ((0, 1), (1, 0))), "neg a b, neg b a ; - ; -", (0, 1), (1, 0), "- ; - ; n 1", "- ; - ; n 1")

    def test_two_rules_that_share_one_box(self):
        rules = [UNDO, BREAK]
        self.check(rules, (0, 1, ((0, 0),)), "neg a b, neg b c ; -n a, +n c ; -", (0, 1), (0,),
                   "- ; -n a, +n a ; -", "neg b c, one a, cut b ; -n a, +n c ; -")
        self.check(rules, (0, 1, ((1, 0),)), "neg a b, neg b c ; -n a, +n c ; -", (0, 1), (1,),
                   "- ; -n a, +n a ; -", "neg a b, one b, cut c ; -n a, +n c ; -")
        self.check([BREAK, UNDO], (0, 1, ((0, 1),)), "neg b c, neg a b ; +n c, -n a ; -", (0,), (1, 0),
                   "neg a b, one b, cut c ; +n c, -n a ; -", "- ; +n a, -n a ; -")

    def test_outers_in_the_order_of_their_ports(self):
        # The add is shared, and has no free port; free are two ports of the dup (1), and one of the neg (2) behind it.
        rules = [FORK, MERGE]
        self.assertEqual(overlaps(rules)[:1], [(0, 1, ((0, 2),))])
        self.check(rules, (0, 1, ((0, 2),)), "add b c e, dup e f g, neg x y, dup y b c ; +n f, +n g, -n x ; -", (0, 1), (2, 3, 0),
                   "neg x y, dup y b c ; +n b, +n c, -n x ; -",
                   "dup e f g, neg x e ; +n f, +n g, -n x ; n 2")

    def test_wires_of_both_stand_once(self):
        rules = [MERGE, LOOSE]
        text = "neg x y, dup y b c, add b c d ; -n x, +n d ; -"
        # The loose one's outers 2 and 3 are joined by the wire c.
        self.check(rules, (0, 1, ((1, 0), (2, 1))), text, (0, 1, 2), (1, 2), "neg a b ; -n a, +n b ; n 2",
                   "neg x y ; -n x, +n y ; -")

    def test_all_is_of_the_stock_and_hangs_together(self):
        chance = random.Random(33)
        many = 0
        for _ in range(200):
            rules, _ = some_rules(chance, some_full_net(chance, 5), 3)
            before = copy.deepcopy(rules)
            for overlap in overlaps(rules):
                i, j, sharing = overlap
                told, place, other = glued(STOCK, rules, overlap)
                many += 1
                self.assertIs(is_net(STOCK, told), True)
                self.assertEqual(len(together(told)), 1)
                self.assertEqual(told[3], ())
                self.assertEqual(place, tuple(range(len(rules[i][0][1]))))
                self.assertEqual(shared(place, other), sharing)
                behind = [box for box in other if box >= len(place)]
                self.assertEqual(behind, list(range(len(place), len(told[1]))))
                self.check_wires(told, rules, overlap, place, other)
                made = (laid(told, rules[i], place), laid(told, rules[j], other))
                self.assertEqual(outcomes(STOCK, rules, overlap), made)
            self.assertEqual(rules, before)
        self.assertGreater(many, 300)

    def check_wires(self, told, rules, overlap, place, other):
        i, j, _ = overlap
        self.assertIs(is_place(told, rules[i][0], place) and is_place(told, rules[j][0], other), True)
        inner = set()
        for left, calls in ((rules[i][0], place), (rules[j][0], other)):
            inner |= {tuple(sorted((calls[b], p) for b, p in wire)) for wire in left[2] if wire[0][0] >= 0}
        self.assertEqual({wire for wire in told[2] if wire[0][0] >= 0}, inner)
        edge = [wire for wire in told[2] if wire[0][0] < 0]
        self.assertEqual([outer for outer, _ in edge], [(-1, at) for at in range(len(told[0]))])
        self.assertEqual([port for _, port in edge], sorted(port for _, port in edge))
        self.assertTrue(all(port[0] >= 0 for _, port in edge))


class WorthTest(unittest.TestCase):
    """[23]: of two rows that share a box there is just one overlap, and its outcomes tell what they make."""

    def rows_of(self, rules, told):
        return [(number, place) for number, (left, _) in enumerate(rules) for place in places_of(told, left)]

    def test_two_rows_that_share_a_box(self):
        chance = random.Random(34)
        many = 0
        for _ in range(400):
            told = some_full_net(chance, 6)
            rules, _ = some_rules(chance, told, 2)
            found = overlaps(rules)
            for one, other in itertools.permutations(self.rows_of(rules, told), 2):
                if set(one[1]) & set(other[1]):
                    many += 1
                    self.check_rows(told, rules, found, one, other)
        self.assertGreater(many, 500)

    def check_rows(self, told, rules, found, one, other):
        pairs = shared(one[1], other[1])
        self.assertIn(pairs, sharings(rules[one[0]][0], rules[other[0]][0]))
        ways = []
        for here, there in ((one, other), (other, one)):
            overlap = (here[0], there[0], shared(here[1], there[1]))
            if overlap in found:
                ways.append((overlap, here, there))
        # Turned about, a sharing may be the same: then it is one overlap, which fits both ways.
        self.assertEqual(len({overlap for overlap, _, _ in ways}), 1)
        self.assertEqual(found.count(ways[0][0]), 1)
        for overlap, here, there in ways:
            self.check_overlap(told, rules, overlap, here, there)

    def check_overlap(self, told, rules, overlap, here, there):
        pattern, _, behind = glued(STOCK, rules, overlap)
        whole = list(here[1]) + [box for box, call in zip(there[1], behind) if call >= len(here[1])]
        place = tuple(whole)
        for wire in pattern[2]:
            if wire[0][0] >= 0:
                self.assertIn(tuple(sorted((place[b], p) for b, p in wire)), told[2])
        for row, outcome in zip((here, there), outcomes(STOCK, rules, overlap)):
            made = laid(told, rules[row[0]], row[1])
            # The outcome in the place of the overlap's net, as if both were a rule.
            self.assertIsNotNone(naming_of(laid(told, (pattern, outcome), place), made))


if __name__ == "__main__":
    unittest.main()
