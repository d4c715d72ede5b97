"""Places of a rule's left in a net [13]."""

import itertools
import random
import unittest

from tests.samples import ANYTHING, EMPTY, STOCK, THROUGH, WIDE, bent, net, pattern_in, some_full_net, some_net
from weave.nets import is_net
from weave.places import is_place, place_at, places_of
from weave.rules import is_pattern


ONE = net("neg a b ; -n a, +n b ; -")
LOOPED = net("neg a a ; - ; -")
CHAIN = net("neg a b, neg b c ; -n a, +n c ; -")
TURNED_CHAIN = net("neg b c, neg a b ; -n a, +n c ; -")
LONG_CHAIN = net("neg a b, neg b c, neg c d ; -n a, +n d ; -")
MIXED_CHAIN = net("neg a b, neg c d, neg b c ; -n a, +n d ; -")
RING_OF_TWO = net("neg a b, neg b a ; - ; -")
RING_OF_THREE = net("neg a b, neg b c, neg c a ; - ; -")
TWICE_TIED = net("add a b c, dup d a b ; -n d, +n c ; -")
ONCE_TIED = net("add a b c, dup d a e ; -n d, +n c, -n b, +n e ; -")

# A chain of boxes 0 and 2, a box joined to itself and one of another kind.
SAMPLE = net("neg a b, one d, neg b c, neg e e ; -n a, -n d, +n c ; n 3")


def is_place_as_told(told, left, place):
    """[13] said once more, of a tuple of unlike boxes of the net, as many as left has."""
    if any(told[1][box] != kind for box, kind in zip(place, left[1])):
        return False
    inner = [wire for wire in left[2] if wire[0][0] >= 0]
    return all(tuple(sorted((place[b], p) for b, p in wire)) in told[2] for wire in inner)


class PlacesTest(unittest.TestCase):
    def check(self, told, left, places):
        self.assertEqual(places_of(told, left), places)
        firsts = {place[0]: place for place in places}
        for box in range(len(told[1])):
            self.assertEqual(place_at(told, left, box), firsts.get(box))
        for place in itertools.permutations(range(len(told[1])), len(left[1])):
            self.assertIs(is_place(told, left, place), place in places)

    def test_one_box(self):
        self.check(SAMPLE, ONE, [(0,), (2,), (3,)])
        self.check(SAMPLE, net("one a ; -n a ; -"), [(1,)])
        self.check(SAMPLE, net("cut a ; +n a ; -"), [])
        self.check(WIDE, net("two a b c d ; -m a, +m b, -n c, +n d ; -"), [(0,)])

    def test_a_loop_at_one_box(self):
        self.check(SAMPLE, LOOPED, [(3,)])
        self.check(LOOPED, LOOPED, [(0,)])
        self.check(RING_OF_TWO, LOOPED, [])
        self.check(WIDE, net("two a a c d ; -n c, +n d ; -"), [(0,)])
        self.check(WIDE, net("two a b c c ; -m a, +m b ; -"), [(0,)])
        self.check(net("two a b c c ; -m a, +m b ; -"), net("two a a c d ; -n c, +n d ; -"), [])

    def test_two_boxes(self):
        self.check(SAMPLE, CHAIN, [(0, 2)])
        self.check(SAMPLE, TURNED_CHAIN, [(2, 0)])
        self.check(net("neg a b, neg b c, neg c d, neg d e ; -n a, +n e ; -"), CHAIN, [(0, 1), (1, 2), (2, 3)])
        self.check(net("neg a b, dup b c d ; -n a, +n c, +n d ; -"), CHAIN, [])

    def test_the_box_of_two_would_be_one_box(self):
        self.check(LOOPED, CHAIN, [])
        self.check(LOOPED, RING_OF_TWO, [])

    def test_ports_at_outers_may_be_joined_to_one_another(self):
        self.check(RING_OF_TWO, CHAIN, [(0, 1), (1, 0)])
        self.check(RING_OF_THREE, LONG_CHAIN, [(0, 1, 2), (1, 2, 0), (2, 0, 1)])
        self.check(TWICE_TIED, ONCE_TIED, [(0, 1)])
        self.check(net("add a b c, dup c a b ; - ; -"), ONCE_TIED, [(0, 1)])

    def test_an_inner_wire_is_asked_for(self):
        self.check(CHAIN, RING_OF_TWO, [])
        self.check(LONG_CHAIN, RING_OF_THREE, [])
        self.check(ONCE_TIED, TWICE_TIED, [])
        self.check(net("neg a b, neg c d ; -n a, +n b, -n c, +n d ; -"), CHAIN, [])

    def test_the_ports_of_an_inner_wire_are_asked_for(self):
        self.check(net("add a b c, dup d b a ; -n d, +n c ; -"), TWICE_TIED, [])
        self.check(net("add a b c, dup d e a ; -n d, +n c, -n b, +n e ; -"), ONCE_TIED, [])
        self.check(TWICE_TIED, TWICE_TIED, [(0, 1)])

    def test_three_boxes(self):
        four = net("neg a b, neg b c, neg c d, neg d e ; -n a, +n e ; -")
        self.check(four, LONG_CHAIN, [(0, 1, 2), (1, 2, 3)])
        self.check(four, MIXED_CHAIN, [(0, 2, 1), (1, 3, 2)])
        self.check(RING_OF_THREE, RING_OF_THREE, [(0, 1, 2), (1, 2, 0), (2, 0, 1)])
        self.check(RING_OF_TWO, LONG_CHAIN, [])
        self.check(net("neg c a, neg a b, neg b c, neg e e ; - ; -"), MIXED_CHAIN, [(0, 2, 1), (1, 0, 2), (2, 1, 0)])

    def test_nets_that_are_less(self):
        for told in (EMPTY, THROUGH):
            for left in (ONE, CHAIN, RING_OF_THREE):
                self.check(told, left, [])

    def test_a_net_of_many_boxes(self):
        wires = [((-1, 0), (0, 0)), ((-1, 1), (119, 1))] + [((at, 1), (at + 1, 0)) for at in range(119)]
        told = (CHAIN[0], ("neg",) * 120, tuple(wires), ())
        self.assertIs(is_net(STOCK, told), True)
        self.assertEqual(places_of(told, LONG_CHAIN), [(at, at + 1, at + 2) for at in range(118)])

    def test_as_told_for_small_nets(self):
        chance = random.Random(21)
        many = 0
        for _ in range(250):
            told = some_full_net(chance, 6)
            left, place = pattern_in(chance, told)
            self.assertIs(is_net(STOCK, left) and is_pattern(left), True)
            self.assertIn(place, places_of(told, left))
            for other in (told, some_net(chance, 6)):
                tried = itertools.permutations(range(len(other[1])), len(left[1]))
                places = [place for place in tried if is_place_as_told(other, left, place)]
                many += len(places)
                self.check(other, left, sorted(places))
        self.assertGreater(many, 300)

    def test_the_list_is_the_askers_own(self):
        places = places_of(SAMPLE, ONE)
        places.append(None)
        self.assertEqual(places_of(SAMPLE, ONE), [(0,), (2,), (3,)])


class IsPlaceTest(unittest.TestCase):
    def test_numbers_that_are_no_boxes(self):
        self.assertIs(is_place(SAMPLE, CHAIN, (0, 2)), True)
        for place in ((0, -2), (-4, 2), (-4, -2), (4, 6), (0, 4), (0, 10**29), (-1, 2), (0, 0), (2, 2), (2, 0)):
            self.assertIs(is_place(SAMPLE, CHAIN, place), False, place)
        self.assertIs(is_place(LOOPED, LOOPED, (-1,)), False)
        self.assertIs(is_place(LOOPED, LOOPED, (1,)), False)

    def test_more_or_less_numbers(self):
        for place in ((), (0,), (0, 2, 3), (0, 2, 0), ((0, 2),), (0, (2,))):
            self.assertIs(is_place(SAMPLE, CHAIN, place), False, place)
        self.assertIs(is_place(SAMPLE, ONE, ()), False)

    def test_truths_are_no_numbers(self):
        self.assertIs(is_place(CHAIN, CHAIN, (0, 1)), True)
        for place in ((False, True), (0, True), (False, 1)):
            self.assertIs(is_place(CHAIN, CHAIN, place), False)
        self.assertIs(is_place(LOOPED, LOOPED, (False,)), False)

    def test_of_anything(self):
        for left in (ONE, CHAIN, LONG_CHAIN):
            for thing in ANYTHING:
                self.assertIs(is_place(SAMPLE, left, thing), left == ONE and thing == (0,))
        for thing in bent((0, 2)):
            self.assertIs(is_place(SAMPLE, CHAIN, thing), False, thing)


if __name__ == "__main__":
    unittest.main()
