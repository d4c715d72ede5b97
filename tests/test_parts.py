"""Boxes that hang together, and parts [10]."""

import itertools
import random
import unittest

from tests.samples import ANYTHING, EMPTY, LOOP, NETS, SAMPLE, STOCK, THROUGH, bent, net, shuffled, some_net
from weave.parts import is_part, lies_at, part_at, together


def some_nets(many, most):
    chance = random.Random(1)
    return [some_net(chance, most) for _ in range(many)]


def lies_by_trial(told, part, box):
    """All namings by which a part lies at a box, as [10] says it, each one tried."""
    kinds, wires = part
    others = [there for there in range(len(told[1])) if there != box]
    found = []
    for rest in itertools.permutations(others, len(kinds) - 1):
        naming = (box,) + rest
        same = all(told[1][there] == kind for there, kind in zip(naming, kinds))
        called = [tuple(sorted((b if b < 0 else naming[b], p) for b, p in wire)) for wire in wires]
        if same and all(wire in told[2] for wire in called):
            found.append(naming)
    return found


class TogetherTest(unittest.TestCase):
    def test_lists_in_order(self):
        self.assertEqual(together(EMPTY), [])
        self.assertEqual(together(THROUGH), [])
        self.assertEqual(together(LOOP), [[0]])
        self.assertEqual(together(SAMPLE), [[0, 1]])
        told = net("one a, cut b, neg c c, one b, cut d, add d e a, cut e ; - ; -")
        self.assertEqual(together(told), [[0, 4, 5, 6], [1, 3], [2]])

    def test_a_long_chain_in_any_order(self):
        chain = net("neg a b, neg b c, neg c d, neg d e, neg e f ; -n a, +n f ; -")
        for order in itertools.permutations(range(5)):
            self.assertEqual(together(shuffled(chain, order)), [[0, 1, 2, 3, 4]])

    def test_outers_tie_nothing_together(self):
        self.assertEqual(together(net("neg a b, neg c d ; -n a, +n b, -n c, +n d ; -")), [[0], [1]])
        self.assertEqual(together(net("one a, cut b ; -n a, +n b, +n c, -n c ; n 3")), [[0], [1]])
        self.assertEqual(together(net("one a, one b, cut c, cut d ; -n a, -n b, +n c, +n d ; -")), [[0], [1], [2], [3]])

    def test_the_lists_are_the_askers_own(self):
        for told in NETS + tuple(some_nets(20, 4)):
            groups = together(told)
            again = together(told)
            self.assertEqual(groups, again)
            for group in groups:
                group.append(None)
            groups.append(None)
            self.assertEqual(together(told), again)

    def test_every_box_once_and_rising(self):
        for told in some_nets(200, 9):
            groups = together(told)
            self.assertEqual(sorted(sum(groups, [])), list(range(len(told[1]))))
            self.assertTrue(all(group == sorted(group) for group in groups))
            self.assertEqual(groups, sorted(groups))
            for (one, _), (other, _) in told[2]:
                if min(one, other) >= 0:
                    self.assertTrue(any(one in group and other in group for group in groups))


class PartAtTest(unittest.TestCase):
    def test_a_box_by_itself(self):
        self.assertEqual(part_at(LOOP, 0), (("neg",), (((0, 0), (0, 1)),)))

    def test_wires_to_outers_keep_their_outers(self):
        self.assertEqual(part_at(SAMPLE, 0), (("add", "cut"), (((-1, 0), (0, 2)), ((-1, 3), (0, 0)), ((0, 1), (1, 0)))))
        self.assertEqual(part_at(SAMPLE, 1), (("cut", "add"), (((-1, 0), (1, 2)), ((-1, 3), (1, 0)), ((0, 0), (1, 1)))))

    def test_others_in_the_order_of_ports(self):
        # The ports of add lead to boxes 3, 0 and 2; from box 3 one comes to box 1.
        told = net("cut b, cut x, neg c y, neg x a, add a b c, cut w, one w ; +n z, +n y, -n z ; -")
        wires = (((-1, 1), (3, 1)), ((0, 0), (1, 1)), ((0, 1), (2, 0)), ((0, 2), (3, 0)), ((1, 0), (4, 0)))
        self.assertEqual(part_at(told, 4), (("add", "neg", "cut", "neg", "cut"), wires))
        wires = (((-1, 1), (4, 1)), ((0, 0), (1, 0)), ((1, 1), (2, 0)), ((2, 1), (3, 0)), ((2, 2), (4, 0)))
        self.assertEqual(part_at(told, 1), (("cut", "neg", "add", "cut", "neg"), wires))

    def test_only_what_hangs_together(self):
        told = net("one a, cut a, one b, cut b, neg c d ; -n c, +n d, +n e, -n e ; -")
        self.assertEqual(part_at(told, 0), (("one", "cut"), (((0, 0), (1, 0)),)))
        self.assertEqual(part_at(told, 3), (("cut", "one"), (((0, 0), (1, 0)),)))
        self.assertEqual(part_at(told, 4), (("neg",), (((-1, 0), (0, 0)), ((-1, 1), (0, 1)))))

    def test_what_is_told_is_a_part_that_lies_there(self):
        for told in some_nets(150, 7):
            for box in range(len(told[1])):
                part = part_at(told, box)
                self.assertIs(is_part(STOCK, part), True)
                self.assertEqual(lies_at(told, part, box)[0], box)

    def test_new_numbers_follow_the_walk(self):
        for told in some_nets(150, 7):
            joined = {end: other for wire in told[2] for end, other in (wire, wire[::-1])}
            for box in range(len(told[1])):
                order = [box]
                for here in order:
                    for port in range(4):
                        there = joined.get((here, port), (-1, 0))[0]
                        if there >= 0 and there not in order:
                            order.append(there)
                self.assertEqual(lies_at(told, part_at(told, box), box), tuple(order))


class LiesAtTest(unittest.TestCase):
    def test_every_box_where_the_same_part_lies(self):
        told = net("one a, cut a, one b, cut b, one c, cut d ; -n c, +n d ; -")
        part = (("one", "cut"), (((0, 0), (1, 0)),))
        self.assertEqual([lies_at(told, part, box) for box in range(6)], [(0, 1), None, (2, 3), None, None, None])
        turned = (("cut", "one"), (((0, 0), (1, 0)),))
        self.assertEqual([lies_at(told, turned, box) for box in range(6)], [None, (1, 0), None, (3, 2), None, None])

    def test_a_part_that_can_be_turned(self):
        told = net("neg a b, neg b c, neg c a, neg d d ; - ; -")
        part = part_at(told, 0)
        # Port 1 of neg 0 leads to neg 1, port 0 to neg 2.
        self.assertEqual(lies_at(told, part, 0), (0, 2, 1))
        self.assertEqual(lies_at(told, part, 1), (1, 0, 2))
        self.assertEqual(lies_at(told, part, 2), (2, 1, 0))
        self.assertIsNone(lies_at(told, part, 3))

    def test_other_outers_kinds_or_ports(self):
        told = net("add a b c ; -n a, -n b, +n c ; -")
        self.assertEqual(lies_at(told, (("add",), (((-1, 0), (0, 0)), ((-1, 1), (0, 1)), ((-1, 2), (0, 2)))), 0), (0,))
        self.assertIsNone(lies_at(told, (("add",), (((-1, 0), (0, 1)), ((-1, 1), (0, 0)), ((-1, 2), (0, 2)))), 0))
        self.assertIsNone(lies_at(told, (("add",), (((-1, 0), (0, 0)), ((-1, 1), (0, 1)), ((-1, 3), (0, 2)))), 0))
        self.assertIsNone(lies_at(told, (("dup",), (((-1, 0), (0, 0)), ((-1, 1), (0, 1)), ((-1, 2), (0, 2)))), 0))
        self.assertIsNone(lies_at(told, part_at(LOOP, 0), 0))

    def test_more_boxes_than_the_net_has_or_less(self):
        short = net("neg a b, neg b a ; - ; -")
        long = net("neg a b, neg b c, neg c a ; - ; -")
        self.assertIsNone(lies_at(short, part_at(long, 0), 0))
        self.assertIsNone(lies_at(long, part_at(short, 0), 0))

    def test_other_boxes_in_any_order(self):
        told = net("add a b c, dup d a b, neg c d, neg e e ; - ; -")
        kinds, wires = part_at(told, 0)
        for rest in itertools.permutations((1, 2)):
            order = (0,) + rest
            shown = shuffled(((), kinds, wires, ()), order)
            naming = lies_at(told, shown[1:3], 0)
            self.assertEqual(naming, tuple({0: 0, order[1]: 1, order[2]: 2}[own] for own in range(3)))
            for box in (1, 2, 3):
                self.assertIsNone(lies_at(told, shown[1:3], box))

    def test_as_told_for_small_nets(self):
        chance = random.Random(2)
        nets = some_nets(60, 5)
        for one in nets:
            for box in range(len(one[1])):
                kinds, wires = part_at(one, box)
                order = [0] + chance.sample(range(1, len(kinds)), len(kinds) - 1)
                part = shuffled(((), kinds, wires, ()), order)[1:3]
                self.assertIs(is_part(STOCK, part), True)
                for other in (one, chance.choice(nets)):
                    for there in range(len(other[1])):
                        found = lies_by_trial(other, part, there)
                        told = lies_at(other, part, there)
                        self.assertEqual([] if told is None else [told], found)


class IsPartTest(unittest.TestCase):
    ENDS = (((-1, 0), (0, 0)), ((-1, 4), (0, 1)))

    def test_right_parts(self):
        for part in ((("neg",), self.ENDS), (("neg",), (((0, 0), (0, 1)),)), (("one", "cut"), (((0, 0), (1, 0)),))):
            self.assertIs(is_part(STOCK, part), True)

    def test_outers_once_from_0_on_and_not_side_by_side(self):
        for outer in ((-1, 0), (-1, -1), (-2, 0), (-1, -5)):
            wires = tuple(sorted((self.ENDS[0], (outer, (0, 1)))))
            self.assertIs(is_part(STOCK, (("neg",), wires)), False)
        for wire in (((-1, 1), (-1, 2)), ((-1, 0), (-1, 4)), ((-1, -2), (-1, -1))):
            self.assertIs(is_part(STOCK, (("neg",), tuple(sorted(self.ENDS + (wire,))))), False)

    def test_each_port_once(self):
        self.assertIs(is_part(STOCK, (("neg",), self.ENDS[:1])), False)
        self.assertIs(is_part(STOCK, (("neg",), self.ENDS + (((0, 2), (0, 3)),))), False)
        self.assertIs(is_part(STOCK, (("neg",), (((-1, 0), (0, 0)), ((0, 0), (0, 1))))), False)
        self.assertIs(is_part(STOCK, (("one", "cut"), (((0, 0), (2, 0)),))), False)

    def test_one_box_or_more_that_hang_together(self):
        self.assertIs(is_part(STOCK, ((), ())), False)
        two = (("neg", "neg"), (((0, 0), (0, 1)), ((1, 0), (1, 1))))
        self.assertIs(is_part(STOCK, two), False)
        outers = (("one", "one"), (((-1, 0), (0, 0)), ((-1, 1), (1, 0))))
        self.assertIs(is_part(STOCK, outers), False)

    def test_of_anything(self):
        for thing in ANYTHING:
            self.assertIs(is_part(STOCK, thing), False)
        for thing in bent((("neg",), self.ENDS)):
            self.assertIs(is_part(STOCK, thing), False, thing)


if __name__ == "__main__":
    unittest.main()
