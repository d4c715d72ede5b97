"""Sharings of two patterns [20], overlaps of a list of rules [21]."""

import copy
import itertools
import random
import unittest

from tests.samples import ANYTHING, STOCK, bent, net, pattern_in, some_full_net, some_rules
from weave.overlaps import is_overlap, overlaps, shared, sharings
from weave.rules import rule_of


ONE = net("neg a b ; -n a, +n b ; -")
LOOPED = net("neg a a ; - ; -")
CHAIN = net("neg a b, neg b c ; -n a, +n c ; -")
LONG_CHAIN = net("neg a b, neg b c, neg c d ; -n a, +n d ; -")
RING_OF_TWO = net("neg a b, neg b a ; - ; -")
RING_OF_THREE = net("neg a b, neg b c, neg c a ; - ; -")
FORK = net("add a b c, dup c d e ; -n a, -n b, +n d, +n e ; -")
MERGE = net("dup a b c, add b c d ; -n a, +n d ; -")
STOP = net("cut a, neg a b ; +n b ; -")


def same(left):
    return rule_of(left, left)


def sharings_as_told(one, other):
    """[20] said once more: all tuples of pairs are tried."""
    joined = [{end: there for wire in told[2] for end, there in (wire, wire[::-1])} for told in (one, other)]
    pairs = list(itertools.product(range(len(one[1])), range(len(other[1]))))
    found = []
    for many in range(1, 4):
        for sharing in itertools.combinations(pairs, many):
            once = len({u for u, _ in sharing}) == len({v for _, v in sharing}) == many
            if once and all(holds(joined, one, other, sharing, pair) for pair in sharing):
                found.append(sharing)
    return sorted(found)


def holds(joined, one, other, sharing, pair):
    u, v = pair
    if one[1][u] != other[1][v]:
        return False
    for port in range(len(dict(STOCK)[one[1][u]])):
        (box, at), (there, also) = joined[0][(u, port)], joined[1][(v, port)]
        if box >= 0 and there >= 0 and (at != also or (box, there) not in sharing):
            return False
    return True


class SharingsTest(unittest.TestCase):
    def check(self, one, other, found):
        self.assertEqual(sharings(one, other), found)
        self.assertEqual(sharings_as_told(one, other), found)
        turned = sorted(tuple(sorted((v, u) for u, v in sharing)) for sharing in found)
        self.assertEqual(sharings(other, one), turned)

    def test_one_box_each(self):
        self.check(ONE, ONE, [((0, 0),)])
        self.check(ONE, net("one a ; -n a ; -"), [])
        # A wire that is an inner one in only one of both is no matter.
        self.check(ONE, LOOPED, [((0, 0),)])
        self.check(LOOPED, LOOPED, [((0, 0),)])
        self.check(net("two a a c d ; -n c, +n d ; -"), net("two a b c c ; -m a, +m b ; -"), [((0, 0),)])

    def test_inner_wires_that_lead_to_unlike_ports(self):
        self.check(net("add a b a ; -n b ; -"), net("add b a a ; -n b ; -"), [])
        self.check(net("add a b a ; -n b ; -"), net("add c a b ; -n c, -n a, +n b ; -"), [((0, 0),)])
        crossed = net("dup a b c, add c b d ; -n a, +n d ; -")
        self.check(MERGE, crossed, [])
        self.check(MERGE, MERGE, [((0, 0), (1, 1))])

    def test_the_boxes_of_these_ports_are_a_pair(self):
        self.check(LOOPED, CHAIN, [])
        self.check(LOOPED, RING_OF_TWO, [])
        self.check(ONE, CHAIN, [((0, 0),), ((0, 1),)])
        self.check(CHAIN, LONG_CHAIN, [((0, 0), (1, 1)), ((0, 1), (1, 2)), ((0, 2),), ((0, 2), (1, 0)), ((1, 0),)])

    def test_a_pattern_with_itself(self):
        self.check(CHAIN, CHAIN, [((0, 0), (1, 1)), ((0, 1),), ((0, 1), (1, 0)), ((1, 0),)])
        self.check(RING_OF_TWO, RING_OF_TWO, [((0, 0), (1, 1)), ((0, 1), (1, 0))])
        self.check(RING_OF_THREE, RING_OF_THREE, [((0, 0), (1, 1), (2, 2)), ((0, 1), (1, 2), (2, 0)), ((0, 2), (1, 0), (2, 1))])
        self.check(FORK, FORK, [((0, 0), (1, 1))])

    def test_boxes_that_are_no_neighbours(self):
        # The chain's ends lie in the ring side by side.
        self.check(CHAIN, RING_OF_TWO, [((0, 0), (1, 1)), ((0, 1), (1, 0))])
        self.check(LONG_CHAIN, RING_OF_TWO, [])
        # The dup and the add may be shared both, or the one of them.
        self.check(FORK, MERGE, [((0, 1),), ((0, 1), (1, 0)), ((1, 0),)])

    def test_as_told_for_small_patterns(self):
        chance = random.Random(31)
        many = 0
        for _ in range(800):
            told = some_full_net(chance, 5)
            one, other = pattern_in(chance, told)[0], pattern_in(chance, told)[0]
            found = sharings_as_told(one, other)
            many += len(found) > 1
            self.check(one, other, found)
        self.assertGreater(many, 50)

    def test_the_list_is_the_askers_own(self):
        found = sharings(CHAIN, CHAIN)
        found.clear()
        self.assertEqual(len(sharings(CHAIN, CHAIN)), 4)


class OverlapsTest(unittest.TestCase):
    def test_none(self):
        self.assertEqual(overlaps([]), [])
        self.assertEqual(overlaps([same(ONE)]), [])
        self.assertEqual(overlaps([same(ONE), same(FORK)]), [])

    def test_one_rule_with_itself(self):
        self.assertEqual(overlaps([same(CHAIN)]), [(0, 0, ((0, 1),)), (0, 0, ((0, 1), (1, 0)))])
        self.assertEqual(overlaps([same(RING_OF_TWO)]), [(0, 0, ((0, 1), (1, 0)))])
        # Turned about, the one is the other: only the lesser one is told.
        self.assertEqual(overlaps([same(RING_OF_THREE)]), [(0, 0, ((0, 1), (1, 2), (2, 0)))])
        self.assertEqual(overlaps([same(LOOPED)]), [])
        self.assertEqual(
            overlaps([same(LONG_CHAIN)]),
            [(0, 0, sharing) for sharing in (
                ((0, 1), (1, 2)), ((0, 1), (1, 2), (2, 0)), ((0, 2),), ((0, 2), (2, 0)),
            )],
        )

    def test_of_two_rules_all_sharings(self):
        self.assertEqual(overlaps([same(ONE), same(ONE)]), [(0, 1, ((0, 0),))])
        self.assertEqual(overlaps([same(CHAIN), same(RING_OF_TWO)]), [
            (0, 0, ((0, 1),)), (0, 0, ((0, 1), (1, 0))), (0, 1, ((0, 0), (1, 1))), (0, 1, ((0, 1), (1, 0))),
            (1, 1, ((0, 1), (1, 0))),
        ])

    def test_told_by_j_then_by_i(self):
        self.assertEqual(overlaps([same(ONE), same(CHAIN), same(STOP), same(ONE)]), [
            (0, 1, ((0, 0),)), (0, 1, ((0, 1),)), (1, 1, ((0, 1),)), (1, 1, ((0, 1), (1, 0))),
            (0, 2, ((0, 1),)), (1, 2, ((0, 1),)),
            (0, 3, ((0, 0),)), (1, 3, ((0, 0),)), (1, 3, ((1, 0),)), (2, 3, ((1, 0),)),
        ])

    def test_the_same_rule_twice(self):
        found = overlaps([same(CHAIN), same(CHAIN)])
        self.assertEqual(found[2:6], [(0, 1, sharing) for sharing in sharings(CHAIN, CHAIN)])
        self.assertEqual(found[:2] + found[6:], [(at, at, told) for at in (0, 1) for told in (((0, 1),), ((0, 1), (1, 0)))])

    def test_as_told_for_lists_by_chance(self):
        chance = random.Random(32)
        for _ in range(80):
            rules, _ = some_rules(chance, some_full_net(chance, 5), 3)
            expected = []
            for j in range(3):
                for i in range(j + 1):
                    for sharing in sharings_as_told(rules[i][0], rules[j][0]):
                        turned = tuple(sorted((v, u) for u, v in sharing))
                        each = tuple((box, box) for box in range(len(rules[i][0][1])))
                        if i < j or (sharing != each and not turned < sharing):
                            expected.append((i, j, sharing))
            self.assertEqual(overlaps(rules), expected)
            for told in expected:
                self.assertIs(is_overlap(rules, told), True)

    def test_nothing_is_changed_and_the_list_is_the_askers_own(self):
        rules = [same(ONE), same(CHAIN)]
        told = copy.deepcopy(rules)
        found = overlaps(rules)
        again = list(found)
        found.clear()
        self.assertEqual(overlaps(rules), again)
        self.assertEqual(rules, told)


class IsOverlapTest(unittest.TestCase):
    RULES = [same(ONE), same(CHAIN), same(STOP), same(RING_OF_THREE)]

    def test_just_those_that_are_told(self):
        found = overlaps(self.RULES)
        pairs = list(itertools.product(range(-1, 4), repeat=2))
        told = [sharing for many in (1, 2) for sharing in itertools.product(pairs, repeat=many)]
        told += [(), ((0, 1), (1, 2), (2, 0)), ((0, 2), (1, 0), (2, 1)), ((0, 0), (1, 1), (2, 2)), ((0, 1), (2, 0), (1, 2))]
        for i, j in itertools.product(range(-4, 5), repeat=2):
            for sharing in told:
                self.assertEqual(is_overlap(self.RULES, (i, j, sharing)), (i, j, sharing) in found)

    def test_each_told_one(self):
        for overlap in overlaps(self.RULES):
            self.assertIs(is_overlap(self.RULES, overlap), True)
            self.assertIs(is_overlap([], overlap), False)

    def test_truths_are_no_numbers(self):
        self.assertIs(is_overlap(self.RULES, (0, 1, ((0, 1),))), True)
        for thing in ((False, 1, ((0, 1),)), (0, True, ((0, 1),)), (0, 1, ((False, 1),)), (0, 1, ((0, True),))):
            self.assertIs(is_overlap(self.RULES, thing), False)

    def test_of_anything(self):
        for thing in list(bent((0, 1, ((0, 1),)))) + list(ANYTHING):
            self.assertIs(is_overlap(self.RULES, thing), False, thing)
        for thing in ANYTHING:
            for other in ((thing, thing, thing), (0, 1, thing), (thing, 1, ((0, 1),)), (0, thing, ((0, 1),)), (0, 1, (thing,)),
                          (0, 1, ((0, 1), thing)), (0, 1, ((thing, 1),)), (0, 1, ((0, thing),))):
                told = other in overlaps(self.RULES) and not isinstance(thing, bool)
                self.assertIs(is_overlap(self.RULES, other), told, other)
        for thing in ((0, 1), (0, 1, ((0, 1),), 0), [0, 1, ((0, 1),)], (0, 1, [(0, 1)]), (0, 1, ([0, 1],)), (0, 1, ((0, 1, 0),))):
            self.assertIs(is_overlap(self.RULES, thing), False, thing)


class SharedTest(unittest.TestCase):
    def test_pairs_rising(self):
        self.assertEqual(shared((4, 2, 7), (7, 4)), ((0, 1), (2, 0)))
        self.assertEqual(shared((7, 4), (4, 2, 7)), ((0, 2), (1, 0)))
        self.assertEqual(shared((0, 1), (2, 3)), ())
        self.assertEqual(shared((0,), (0,)), ((0, 0),))
        self.assertEqual(shared((1, 2, 3), (1, 2, 3)), ((0, 0), (1, 1), (2, 2)))


if __name__ == "__main__":
    unittest.main()
