"""Nets of a stock [6]."""

import copy
import unittest

from tests.samples import ANYTHING, EMPTY, LOOP, MINUS, NETS, PLUS, SAMPLE, STOCK, THROUGH, WIDE, bent
from weave.errors import NoNet
from weave.nets import ends_of, is_net, joined_to, net_of


def one_box(wires, boxes=("neg",), outers=(), rings=()):
    return (outers, boxes, wires, rings)


class IsNetTest(unittest.TestCase):
    def check_wrong(self, *nets):
        for net in nets:
            self.assertIs(is_net(STOCK, net), False, net)

    def test_right_nets(self):
        for net in NETS:
            self.assertIs(is_net(STOCK, net), True, net)

    def test_of_anything(self):
        for thing in ANYTHING:
            self.assertIs(is_net(STOCK, thing), thing == EMPTY and isinstance(thing, tuple))

    def test_one_spot_of_another_kind(self):
        for net in NETS:
            for thing in bent(net):
                self.assertIs(is_net(STOCK, thing), False, thing)

    def test_how_many_things(self):
        self.check_wrong(SAMPLE[:3], SAMPLE + ((),), (SAMPLE,))

    def test_outers(self):
        wires = (((-1, 0), (-1, 1)),)
        self.check_wrong(
            ((PLUS, ("n", "*")), (), wires, ()), ((PLUS, ("N", "-")), (), wires, ()), ((PLUS, "-n"), (), wires, ()),
            ((PLUS, ("n",)), (), wires, ()),
        )

    def test_boxes(self):
        wires = LOOP[2]
        self.check_wrong(one_box(wires, ("nix",)), one_box(wires, ("NEG",)), one_box(wires, (("neg",),)))
        self.check_wrong(one_box(wires, (["neg"],)), one_box(wires, (PLUS,)))

    def test_boxes_of_another_stock(self):
        self.assertIs(is_net(STOCK[:2], SAMPLE), True)
        self.assertIs(is_net(STOCK[:1], SAMPLE), False)
        self.assertIs(is_net(STOCK[:2], LOOP), False)

    def test_each_end_stands(self):
        self.check_wrong(one_box(()), one_box((), (), (PLUS,)), one_box((), (), (PLUS, MINUS)))
        self.check_wrong((SAMPLE[0], SAMPLE[1], SAMPLE[2][:3], ()), (SAMPLE[0], SAMPLE[1], SAMPLE[2][1:], ()))

    def test_no_end_stands_twice(self):
        self.check_wrong(one_box(LOOP[2] * 2))
        # Port 0 of box 0 is joined to both minuses, box 1's port 0 to none.
        self.check_wrong(((), ("neg", "neg"), (((0, 0), (0, 1)), ((0, 0), (1, 1))), ()))
        self.check_wrong(((), ("neg", "neg"), (((0, 0), (0, 1)), ((0, 0), (1, 1)), ((1, 0), (1, 1))), ()))

    def test_no_end_is_joined_to_itself(self):
        self.check_wrong(one_box((((0, 0), (0, 0)),), ("one",)))
        self.check_wrong(one_box((((0, 0), (0, 0)), ((0, 1), (0, 1)))))

    def test_ends_beyond(self):
        for end in ((0, 1), (0, -1), (1, 0), (-1, 1), (-1, -1), (-2, 0), (5, 5)):
            wire = ((-1, 0), end) if (-1, 0) < end else (end, (-1, 0))
            self.check_wrong(((MINUS,), ("one",), (wire,), ()))
        self.assertIs(is_net(STOCK, ((MINUS,), ("one",), (((-1, 0), (0, 0)),), ())), True)

    def test_ends_of_other_forms(self):
        for end in ((0,), (0, 0, 0), 0, "00", ("0", 0), (0, "0"), [0, 0], (False, 0), (0, False), (None, 0)):
            self.check_wrong(((MINUS,), ("one",), (((-1, 0), end),), ()))

    def test_wires_of_other_forms(self):
        one, other = (-1, 0), (0, 0)
        for wires in (((one,),), ((one, other, other),), (one, other), ([one, other],), [(one, other)], ((), (one, other))):
            self.check_wrong(((MINUS,), ("one",), wires, ()))

    def test_the_lesser_end_stands_first(self):
        self.check_wrong(one_box((((0, 1), (0, 0)),)))
        self.check_wrong(((MINUS,), ("one",), (((0, 0), (-1, 0)),), ()))

    def test_wires_rise(self):
        wires = SAMPLE[2]
        for at in range(len(wires) - 1):
            turned = wires[:at] + (wires[at + 1], wires[at]) + wires[at + 2:]
            self.check_wrong((SAMPLE[0], SAMPLE[1], turned, ()))

    def test_wires_join_mates(self):
        self.check_wrong(((PLUS,), ("one",), (((-1, 0), (0, 0)),), ()))
        self.check_wrong(((("m", "-"),), ("one",), (((-1, 0), (0, 0)),), ()))
        self.check_wrong(((PLUS, PLUS), (), THROUGH[2], ()), ((PLUS, ("m", "-")), (), THROUGH[2], ()))
        self.check_wrong(((), ("one", "one"), (((0, 0), (1, 0)),), ()))

    def test_rings(self):
        right = ((("a", 1),), (("a", 2), ("b", 1)), (("a", 10**29), ("aa", 1), ("b", 10**9)))
        for rings in right:
            self.assertIs(is_net(STOCK, ((), (), (), rings)), True, rings)
        wrong = (
            (("a", 0),), (("a", -1),), (("a", True),), (("a", "1"),), (("a",),), (("a", 1, 1),), (("A", 1),), (("", 1),),
            (("b", 1), ("a", 1)), (("a", 1), ("a", 1)), (("a", 1), ("a", 2)), (("a", 2), ("a", 1)), ("a", 1), (1, "a"),
            (("a", 1), ("c", 1), ("b", 1)), (("abcdefghi", 1),), ((("a",), 1),),
        )
        for rings in wrong:
            self.check_wrong(((), (), (), rings))


class EndsTest(unittest.TestCase):
    def test_ends_of_the_sample(self):
        told = [
            ((-1, 0), PLUS), ((-1, 1), PLUS), ((-1, 2), MINUS), ((-1, 3), MINUS), ((0, 0), PLUS), ((0, 1), PLUS),
            ((0, 2), MINUS), ((1, 0), MINUS),
        ]
        self.assertEqual(ends_of(STOCK, SAMPLE), told)
        self.assertEqual(ends_of(STOCK, EMPTY), [])

    def test_ends_of_rise_and_are_the_askers_own(self):
        for net in NETS:
            ends = ends_of(STOCK, net)
            self.assertEqual(ends, sorted(ends))
            ends.append(None)
            self.assertEqual(ends_of(STOCK, net), ends[:-1])

    def test_many_outers_stand_in_the_order_of_their_numbers(self):
        outers = (PLUS, MINUS) * 6
        wires = tuple(((-1, at), (-1, at + 1)) for at in range(0, 12, 2))
        net = (outers, (), wires, ())
        self.assertIs(is_net(STOCK, net), True)
        self.assertEqual(ends_of(STOCK, net), [((-1, at), spec) for at, spec in enumerate(outers)])

    def test_joined_to_for_every_end(self):
        for net in NETS:
            for one, other in net[2]:
                self.assertEqual(joined_to(net, one), other)
                self.assertEqual(joined_to(net, other), one)


class NetOfTest(unittest.TestCase):
    def check_none(self, outers, boxes, pairs, rings):
        handed = copy.deepcopy((outers, boxes, pairs, rings))
        with self.assertRaises(NoNet):
            net_of(STOCK, outers, boxes, pairs, rings)
        self.assertEqual((outers, boxes, pairs, rings), handed)

    def test_pairs_and_ends_in_any_order(self):
        wires = list(SAMPLE[2])
        for turn in range(len(wires)):
            for turned in range(2 ** len(wires)):
                pairs = [wire[::-1] if turned >> at & 1 else wire for at, wire in enumerate(wires)]
                pairs = pairs[turn:] + pairs[:turn]
                self.assertEqual(net_of(STOCK, list(SAMPLE[0]), list(SAMPLE[1]), pairs, []), SAMPLE)

    def test_nothing_makes_the_empty_net(self):
        self.assertEqual(net_of(STOCK, [], [], [], []), EMPTY)

    def test_rings_in_any_order_and_several_of_a_sort(self):
        net = net_of(STOCK, [], [], [], ["n", "b", "n", "aa", "n", "aa"])
        self.assertEqual(net, ((), (), (), (("aa", 2), ("b", 1), ("n", 3))))

    def test_what_is_made_is_a_net(self):
        for outers, boxes, wires, rings in (EMPTY, SAMPLE, LOOP, THROUGH):
            sorts = [sort for sort, many in rings for _ in range(many)]
            net = net_of(STOCK, list(outers), list(boxes), list(wires), sorts)
            self.assertEqual(net, (outers, boxes, wires, rings))
            self.assertIs(is_net(STOCK, net), True)

    def test_the_lists_stay_and_are_not_kept(self):
        lists = [list(LOOP[0]), list(LOOP[1]), [((0, 1), (0, 0))], ["n", "m", "n"]]
        handed = copy.deepcopy(lists)
        net = net_of(STOCK, *lists)
        self.assertEqual(lists, handed)
        for things in lists:
            things.append("cut")
            things.clear()
        self.assertEqual(net, ((), ("neg",), (((0, 0), (0, 1)),), (("m", 1), ("n", 2))))

    def test_what_makes_no_net(self):
        loop = [((0, 0), (0, 1))]
        self.check_none([PLUS], [], [], [])
        self.check_none([], ["neg"], [], [])
        self.check_none([], ["nix"], loop, [])
        self.check_none([], ["neg"], loop * 2, [])
        self.check_none([], ["neg"], loop + [((0, 1), (0, 0))], [])
        self.check_none([], ["neg"], [((0, 0), (0, 0))], [])
        self.check_none([], ["neg"], [((0, 0), (0, 2))], [])
        self.check_none([], ["one", "one"], [((0, 0), (1, 0))], [])
        self.check_none([PLUS, PLUS], [], [((-1, 0), (-1, 1))], [])
        self.check_none([], [], loop, [])
        self.check_none([("n", "*")], [], [], [])

    def test_rings_that_are_no_sorts(self):
        for ring in ("N", "", "abcdefghi", 1, True, None, ("n", 1), ["n"], ("n",)):
            self.check_none([], [], [], [ring])
            self.check_none([], [], [], ["n", ring])

    def test_pairs_of_other_forms(self):
        ends = ((0, 0), (0, 1))
        for pair in (list(ends), ends[:1], ends + ends[:1], ([0, 0], (0, 1)), ((0, 0), [0, 1]), ((False, 0), (0, 1)),
                     ((0, 0), (0, True)), ((0, 0), (0, "1")), ((0, 0), None), "ab", None, 3, (), (ends, ends)):
            self.check_none([], ["neg"], [pair], [])

    def test_what_is_no_list(self):
        right = [list(SAMPLE[0]), list(SAMPLE[1]), list(SAMPLE[2]), ["n"]]
        self.assertEqual(net_of(STOCK, *right), SAMPLE[:3] + ((("n", 1),),))
        for at in range(4):
            for thing in (tuple(right[at]), None, 0, "", "n", True, False, {}):
                self.check_none(*right[:at], thing, *right[at + 1:])
        for at in range(4):
            for thing in ((), "", None):
                self.check_none(*([], [], [], [])[:at], thing, *([], [], [], [])[at + 1:])

    def test_of_anything(self):
        for thing in ANYTHING:
            for at in range(4):
                lists = [[], [], [], []]
                lists[at] = thing if thing != [] else [None]
                self.check_none(*lists)
                lists[at] = [thing]
                if at == 3 and thing in ("a", "n", "outers", "part"):
                    self.assertEqual(net_of(STOCK, *lists), ((), (), (), ((thing, 1),)))
                else:
                    self.check_none(*lists)

    def test_one_spot_of_another_kind(self):
        for net in (SAMPLE, LOOP, THROUGH):
            for at in range(3):
                for thing in bent(net[at]):
                    if isinstance(thing, tuple):
                        lists = [list(net[0]), list(net[1]), list(net[2]), []]
                        lists[at] = list(thing)
                        self.check_none(*lists)


if __name__ == "__main__":
    unittest.main()
