"""A rule laid at a place of a net [14]."""

import random
import unittest

from tests.samples import ANYTHING, STOCK, THROUGH, bent, net, rule, some_full_net, some_rules
from weave.errors import NoPlace
from weave.laying import laid, stay_behind
from weave.nets import is_net
from weave.places import places_of


NEG = "neg a b ; -n a, +n b ; -"
UNDO = rule("neg a b, neg b c ; -n a, +n c ; -", "- ; -n a, +n a ; -")
VANISH = rule(NEG, "- ; -n a, +n a ; -")
GROW = rule(NEG, "neg a b, neg b c, neg c d ; -n a, +n d ; -")
BREAK = rule(NEG, "one a, cut b ; -n a, +n b ; -")
FORK = "add a b c, dup c d e ; -n a, -n b, +n d, +n e ; -"
STRAIGHT = rule(FORK, "- ; -n a, -n b, +n a, +n b ; -")
CROSSED = rule(FORK, "- ; -n a, -n b, +n b, +n a ; -")


def new_call(net_told, place, end):
    """An end that stays, by its new number."""
    stay = [box for box in range(len(net_told[1])) if box not in place]
    return end if end[0] < 0 else (stay.index(end[0]), end[1])


def ways(net_told, left, right, place):
    """Two functions that walk on as [14] says: along a wire in the net, and along a wire in right."""
    joined = {end: other for wire in net_told[2] for end, other in (wire, wire[::-1])}
    of_left = {end: other for wire in left[2] for end, other in (wire, wire[::-1])}
    of_right = {end: other for wire in right[2] for end, other in (wire, wire[::-1])}

    def from_net(end):
        box, port = joined[end]
        if box in place:
            outer = of_left[(place.index(box), port)]
            assert outer[0] == -1
            return from_right(outer)
        return new_call(net_told, place, (box, port))

    def from_right(end):
        box, port = of_right[end]
        if box == -1:
            own, at = of_left[(box, port)]
            return from_net((place[own], at))
        return (len(net_told[1]) - len(place) + box, port)

    return from_net, from_right


def rounds(net_told, left, right, place):
    """The sorts of the rounds, told by groups of outers: a round is a group in which each one leads on both ways."""
    of_left = {wire[0][1]: wire[1] for wire in left[2] if wire[0][0] == -1}
    ports = {(place[box], port): outer for outer, (box, port) in of_left.items()}
    leads = [(ports[one], ports[other]) for one, other in net_told[2] if one in ports and other in ports]
    leads += [(one[1], other[1]) for one, other in right[2] if one[0] == other[0] == -1]
    groups = [{outer} for outer in range(len(left[0]))]
    for one, other in leads:
        here = next(group for group in groups if one in group)
        there = next(group for group in groups if other in group)
        if here is not there:
            here |= there
            groups.remove(there)
    both = [group for group in groups if sum(one in group for one, _ in leads) == len(group)]
    return [left[0][min(group)][0] for group in both]


def laid_as_told(net_told, told_rule, place):
    """[14] said once more."""
    left, right = told_rule
    from_net, from_right = ways(net_told, left, right, place)
    stay = [box for box in range(len(net_told[1])) if box not in place]
    wires = set()
    for end in {end for wire in net_told[2] for end in wire if end[0] not in place}:
        wires.add(tuple(sorted((new_call(net_told, place, end), from_net(end)))))
    for box, port in {end for wire in right[2] for end in wire if end[0] >= 0}:
        wires.add(tuple(sorted(((len(stay) + box, port), from_right((box, port))))))
    rings = {}
    for sort, many in net_told[3] + right[3] + tuple((sort, 1) for sort in rounds(net_told, left, right, place)):
        rings[sort] = rings.get(sort, 0) + many
    boxes = tuple(net_told[1][box] for box in stay) + right[1]
    return net_told[0], boxes, tuple(sorted(wires)), tuple(sorted(rings.items()))


class LaidTest(unittest.TestCase):
    def check(self, text, told_rule, place, made):
        self.assertEqual(laid(net(text), told_rule, place), net(made))

    def test_a_wire_between_outers_of_right_joins_ends_of_the_net(self):
        # Port 0 of box 2 is at outer 0, port 1 of box 1 at outer 1.
        self.check("one a, neg b a, neg c b, cut c ; - ; -", UNDO, (2, 1), "one a, cut a ; - ; -")
        self.check("neg a b, neg b c ; -n a, +n c ; -", UNDO, (0, 1), "- ; -n a, +n a ; -")
        self.check("neg a b, neg b c, neg c d ; -n a, +n d ; -", UNDO, (0, 1), "neg a b ; -n a, +n b ; -")

    def test_boxes_that_stay_and_then_those_of_right(self):
        self.check("one d, neg c d, cut c ; - ; -", GROW, (1,), "one d, cut a, neg a b, neg b c, neg c d ; - ; -")
        self.check("neg a b, add b c d, neg d e ; -n a, -n c, +n e ; -", BREAK, (2,),
                   "neg a b, add b c d, one d, cut e ; -n a, -n c, +n e ; -")
        self.check("neg a b, add b c d, neg d e ; -n a, -n c, +n e ; -", BREAK, (0,),
                   "add b c d, neg d e, one a, cut b ; -n a, -n c, +n e ; -")

    def test_outers_and_what_is_elsewhere_stay(self):
        self.check("neg a b, neg c c, add d e f ; -n d, +n b, +m g, -n a, -n e, -m g, +n f ; m 2", VANISH, (0,),
                   "neg c c, add d e f ; -n d, +n a, +m g, -n a, -n e, -m g, +n f ; m 2")
        told = net("neg a b, neg c d ; -n a, +n b, -n c, +n d ; -")
        self.assertEqual(laid(told, VANISH, (0,)), net("neg c d ; -n a, +n a, -n c, +n d ; -"))
        self.assertEqual(laid(told, VANISH, (1,)), net("neg a b ; -n a, +n b, -n c, +n c ; -"))

    def test_two_ports_of_the_place_joined_to_one_another(self):
        self.check("neg a a ; - ; -", GROW, (0,), "neg a b, neg b c, neg c a ; - ; -")
        self.check("neg a a ; - ; -", BREAK, (0,), "one a, cut a ; - ; -")
        self.check("neg a b, neg b a ; - ; -", BREAK, (1,), "neg a b, one b, cut a ; - ; -")

    def test_a_ring_is_closed(self):
        self.check("neg a a ; - ; -", VANISH, (0,), "- ; - ; n 1")
        self.check("neg a b, neg b a ; - ; -", UNDO, (0, 1), "- ; - ; n 1")
        self.check("neg a b, neg b a ; - ; -", UNDO, (1, 0), "- ; - ; n 1")
        self.check("neg a b, neg b c, neg c a ; - ; -", UNDO, (1, 2), "neg a a ; - ; -")

    def test_through_the_place_several_times(self):
        # From outer 0 to the add, over to the dup, back along the net's wire to the add, and over to the dup again.
        looped = "add x y z, dup z x w ; -n y, +n w ; -"
        self.check(looped, CROSSED, (0, 1), "- ; -n a, +n a ; -")
        self.check(looped, STRAIGHT, (0, 1), "- ; -n a, +n a ; n 1")
        mirrored = "add x y z, dup z w x ; -n y, +n w ; -"
        self.check(mirrored, STRAIGHT, (0, 1), "- ; -n a, +n a ; -")
        self.check(mirrored, CROSSED, (0, 1), "- ; -n a, +n a ; n 1")

    def test_rounds_of_two_and_of_four_outers(self):
        self.check("add x y z, dup z x y ; - ; -", STRAIGHT, (0, 1), "- ; - ; n 2")
        self.check("add x y z, dup z x y ; - ; -", CROSSED, (0, 1), "- ; - ; n 1")
        self.check("add x y z, dup z y x ; - ; -", STRAIGHT, (0, 1), "- ; - ; n 1")
        self.check("add x y z, dup z y x ; - ; -", CROSSED, (0, 1), "- ; - ; n 2")

    def test_from_a_port_of_right_through_the_place(self):
        # Outer 0 of right leads to a box of right, outer 1 to outer 2: from the box one comes through the net, over
        # right and out of the net.
        told = rule(FORK, "neg a d ; -n a, -n b, +n b, +n d ; -")
        self.check("add x y z, dup z x w ; -n y, +n w ; -", told, (0, 1), "neg a d ; -n a, +n d ; -")
        self.check("add x y z, dup z w x ; -n y, +n w ; -", told, (0, 1), "neg a a ; -n y, +n y ; -")
        self.check("add x y z, dup z y x ; - ; -", told, (0, 1), "neg a a ; - ; n 1")
        # From box to box of right, over the net's wire alone.
        told = rule(FORK, "neg a d, neg b e ; -n a, -n b, +n d, +n e ; -")
        self.check("add x y z, dup z y x ; - ; -", told, (0, 1), "neg a b, neg b a ; - ; -")
        self.check("add x y z, dup z x y ; - ; -", told, (0, 1), "neg a a, neg b b ; - ; -")

    def test_rings_of_the_net_and_of_right(self):
        told = rule(NEG, "- ; -n a, +n a ; n 5, zz 3")
        self.check("neg a a ; - ; m 1, n 2", told, (0,), "- ; - ; m 1, n 8, zz 3")
        self.check("neg a b ; -n a, +n b ; m 1, n 2", told, (0,), "- ; -n a, +n a ; m 1, n 7, zz 3")
        self.check("neg a b ; -n a, +n b ; -", told, (0,), "- ; -n a, +n a ; n 5, zz 3")
        large = THROUGH[:3] + ((("n", 10**29),),)
        many = (net("neg a b ; +n b, -n a ; -"), large)
        self.assertEqual(laid(net("neg a a ; - ; n 7"), many, (0,))[3], (("n", 10**29 + 8),))

    def test_a_round_has_the_sort_of_its_outers(self):
        told = rule("two a b c d ; -m a, +m b, -n c, +n d ; -", "- ; -m a, +m a, -n c, +n c ; -")
        self.check("two a a c c ; - ; -", told, (0,), "- ; - ; m 1, n 1")
        self.check("two a a c d ; -n c, +n d ; -", told, (0,), "- ; -n c, +n c ; m 1")
        self.check("two a b c c ; -m a, +m b ; -", told, (0,), "- ; -m a, +m a ; n 1")

    def test_a_left_without_outers(self):
        told = rule("neg a a ; - ; -", "one a, cut a ; - ; m 1")
        self.check("neg a b, neg c c, neg b d ; -n a, +n d ; -", told, (1,),
                   "neg a b, neg b d, one c, cut c ; -n a, +n d ; m 1")
        gone = rule("neg a b, neg b c, neg c a ; - ; -", "- ; - ; -")
        self.check("neg a b, neg b c, neg c a ; - ; -", gone, (2, 0, 1), "- ; - ; -")

    def test_three_boxes_and_outers_in_any_order(self):
        told = rule("cut a, add a b c, neg c d ; +n d, -n b ; -", "dup b d c, one c ; +n d, -n b ; -")
        self.check("neg y z, cut w, add w x y ; -n x, +n z ; -", told, (1, 2, 0), "dup b d c, one c ; -n b, +n d ; -")

    def test_as_told_for_small_nets(self):
        chance = random.Random(22)
        ringed = 0
        for _ in range(600):
            told = some_full_net(chance, 6)
            rules, places = some_rules(chance, told, 1)
            for place in places_of(told, rules[0][0]):
                made = laid(told, rules[0], place)
                self.assertEqual(made, laid_as_told(told, rules[0], place))
                self.assertIs(is_net(STOCK, made), True)
                self.assertEqual(made[0], told[0])
                self.assertEqual(made, laid(told, rules[0], place))
                ringed += made[3] != ()
            self.assertIn(places[0], places_of(told, rules[0][0]))
        self.assertGreater(ringed, 100)


class NoPlaceTest(unittest.TestCase):
    NET = net("neg a b, one d, neg b c, neg e e ; -n a, -n d, +n c ; n 3")

    def check_refused(self, told_rule, place):
        with self.assertRaises(NoPlace):
            laid(self.NET, told_rule, place)

    def test_other_boxes(self):
        for place in ((2, 0), (0, 1), (0, 3), (3, 3), (0, -2), (-4, 2), (0, 4), (0,), (0, 2, 3), ()):
            self.check_refused(UNDO, place)
        for place in ((1,), (-1,), (4,), (), (0, 2), (True,), (False,)):
            self.check_refused(VANISH, place)

    def test_of_anything(self):
        self.assertEqual(laid(self.NET, UNDO, (0, 2)), net("one d, neg e e ; -n a, -n d, +n a ; n 3"))
        for thing in bent((0, 2)):
            self.check_refused(UNDO, thing)
        for thing in ANYTHING:
            self.check_refused(UNDO, thing)


class StayBehindTest(unittest.TestCase):
    def test_old_numbers_in_order(self):
        told = net("neg a b, one d, neg b c, neg e e ; -n a, -n d, +n c ; n 3")
        self.assertEqual(stay_behind(told, (0, 2)), [1, 3])
        self.assertEqual(stay_behind(told, (2, 0)), [1, 3])
        self.assertEqual(stay_behind(told, (3,)), [0, 1, 2])
        self.assertEqual(stay_behind(net("neg a a ; - ; -"), (0,)), [])

    def test_the_list_is_the_askers_own(self):
        told = net("neg a b, neg b a ; - ; -")
        stay_behind(told, (0,)).append(None)
        self.assertEqual(stay_behind(told, (0,)), [1])


if __name__ == "__main__":
    unittest.main()
