"""Rows walked one by one [15], and two rows that are apart, in either order [16], [3]."""

import copy
import random
import unittest

from tests.samples import ANYTHING, EMPTY, STOCK, bent, net, rule, some_full_net, some_rules
from weave.alike import is_naming
from weave.errors import NoRow, Shared
from weave.laying import laid
from weave.nets import is_net
from weave.places import places_of
from weave.rows import both_ways, walked


NEG = "neg a b ; -n a, +n b ; -"
RULES = [
    rule("neg a b, neg b c ; -n a, +n c ; -", "- ; -n a, +n a ; -"),
    rule(NEG, "one a, cut b ; -n a, +n b ; -"),
    rule(NEG, "neg a b, neg b c, neg c d ; -n a, +n d ; -"),
    rule(NEG, "- ; -n a, +n a ; -"),
    rule("one a, cut a ; - ; -", "- ; - ; m 1"),
]
CHAIN = net("neg a b, neg b c, neg c d, neg d e ; -n a, +n e ; -")


class WalkedTest(unittest.TestCase):
    def check_refused(self, told, rows, at):
        with self.assertRaises(NoRow) as caught:
            walked(RULES, told, rows)
        self.assertEqual(caught.exception.at, at)

    def test_no_rows(self):
        self.assertEqual(walked(RULES, CHAIN, []), [])
        self.assertEqual(walked([], EMPTY, []), [])

    def test_a_net_behind_each_row(self):
        nets = walked(RULES, CHAIN, [(0, (1, 2)), (1, (1,))])
        self.assertEqual(nets, [net("neg a b, neg b c ; -n a, +n c ; -"), net("neg a b, one b, cut c ; -n a, +n c ; -")])

    def test_one_and_cut_go(self):
        nets = walked(RULES, net("neg a b, neg b a ; - ; -"), [(1, (0,)), (1, (0,)), (4, (0, 3)), (4, (1, 0))])
        self.assertEqual(nets, [net(text) for text in (
            "neg b a, one a, cut b ; - ; -", "one a, cut b, one b, cut a ; - ; -", "cut b, one b ; - ; m 1", "- ; - ; m 2",
        )])

    def test_the_first_that_is_no_row_there(self):
        self.check_refused(CHAIN, [(0, (1, 0))], 0)
        self.check_refused(CHAIN, [(0, (0, 1)), (0, (2, 3))], 1)
        self.check_refused(CHAIN, [(0, (0, 1)), (0, (0, 1)), (0, (0, 1))], 2)
        self.check_refused(CHAIN, [(0, (0, 1)), (0, (2, 3)), (9, ())], 1)
        self.check_refused(CHAIN, [None, (0, (2, 3)), (9, ())], 0)

    def test_numbers_of_no_rule(self):
        for number in (-1, -5, 5, 10**29, True, False, None, "0", (0,)):
            self.check_refused(CHAIN, [(2, (0,)), (number, (0, 1))], 1)
            self.check_refused(CHAIN, [(number, (0,))], 0)
        with self.assertRaises(NoRow):
            walked([], CHAIN, [(0, (0,))])
        for number in (-1, 1, False):
            with self.assertRaises(NoRow):
                walked(RULES[1:2], CHAIN, [(number, (0,))])

    def test_rows_of_anything(self):
        right = (0, (0, 1))
        self.assertEqual(walked(RULES, CHAIN, [right]), [net("neg a b, neg b c ; -n a, +n c ; -")])
        for thing in list(bent(right)) + list(ANYTHING) + [(0,), (0, (0, 1), 0), ((0, (0, 1)),), (0, 0, 1)]:
            self.check_refused(CHAIN, [thing], 0)
            self.check_refused(CHAIN, [(2, (3,)), thing], 1)

    def test_nothing_is_changed_and_the_list_is_the_askers_own(self):
        rules, rows = copy.deepcopy(RULES), [(0, (1, 2)), (2, (0,))]
        nets = walked(rules, CHAIN, rows)
        again = list(nets)
        self.assertEqual((rules, rows), (RULES, [(0, (1, 2)), (2, (0,))]))
        nets.append(None)
        nets[0] = None
        self.assertEqual(walked(rules, CHAIN, rows), again)

    def test_each_step_is_the_rule_laid_there(self):
        chance = random.Random(23)
        for _ in range(150):
            start = some_full_net(chance, 6)
            rules, _ = some_rules(chance, start, 2)
            rows, expected, now = [], [], start
            for _ in range(4):
                all_rows = [(at, place) for at in range(2) for place in places_of(now, rules[at][0])]
                if all_rows:
                    rows.append(chance.choice(all_rows))
                    now = laid(now, rules[rows[-1][0]], rows[-1][1])
                    expected.append(now)
                    self.assertIs(is_net(STOCK, now), True)
                    self.assertEqual(now[0], start[0])
            self.assertEqual(walked(rules, start, rows), expected)


class BothWaysTest(unittest.TestCase):
    def check_row_refused(self, one, other, at):
        with self.assertRaises(NoRow) as caught:
            both_ways(RULES, CHAIN, one, other)
        self.assertEqual(caught.exception.at, at)

    def test_boxes_of_right_stand_in_the_order_of_the_rows(self):
        told = net("neg a b, neg b c ; -n a, +n c ; -")
        self.assertEqual(both_ways(RULES, told, (1, (0,)), (2, (1,))), (
            net("one a, cut b, neg b x, neg x y, neg y c ; -n a, +n c ; -"),
            net("neg b x, neg x y, neg y c, one a, cut b ; -n a, +n c ; -"),
            (3, 4, 0, 1, 2),
        ))

    def test_boxes_that_stay_between(self):
        told = net("neg a b, dup b c x, neg c d ; -n a, +n d, +n x ; -")
        self.assertEqual(both_ways(RULES, told, (1, (2,)), (2, (0,))), (
            net("dup b c x, one c, cut d, neg a p, neg p q, neg q b ; -n a, +n d, +n x ; -"),
            net("dup b c x, neg a p, neg p q, neg q b, one c, cut d ; -n a, +n d, +n x ; -"),
            (0, 4, 5, 1, 2, 3),
        ))

    def test_places_joined_by_wires(self):
        self.assertEqual(both_ways(RULES, CHAIN, (0, (2, 3)), (0, (0, 1))), (net("- ; -n a, +n a ; -"),) * 2 + ((),))
        # The ring is closed by the second row, whichever it is.
        told = net("neg a b, neg b c, neg c d, neg d a ; - ; -")
        self.assertEqual(both_ways(RULES, told, (0, (3, 0)), (0, (1, 2))), (net("- ; - ; n 1"),) * 2 + ((),))
        told = net("neg a b, neg b a ; - ; -")
        self.assertEqual(both_ways(RULES, told, (3, (1,)), (3, (0,))), (net("- ; - ; n 1"),) * 2 + ((),))

    def test_no_rows(self):
        right = (0, (0, 1))
        for thing in list(bent(right)) + list(ANYTHING) + [(0, (1, 0)), (-1, (0,)), (5, (0,)), (0, (0, 4))]:
            self.check_row_refused(thing, right, 0)
            self.check_row_refused(thing, thing, 0)
            self.check_row_refused(right, thing, 1)

    def test_rows_of_the_net_itself(self):
        self.check_row_refused((0, (0, 1)), (0, (1, 0)), 1)
        self.check_row_refused((0, (0, 4)), (0, (0, 1)), 0)

    def test_shared(self):
        for one, other in (((0, (0, 1)), (0, (0, 1))), ((0, (0, 1)), (0, (1, 2))), ((0, (1, 2)), (1, (2,))),
                           ((3, (3,)), (0, (2, 3))), ((1, (0,)), (2, (0,)))):
            with self.assertRaises(Shared):
                both_ways(RULES, CHAIN, one, other)
            with self.assertRaises(Shared):
                both_ways(RULES, CHAIN, other, one)

    def test_nothing_is_changed(self):
        rules = copy.deepcopy(RULES)
        both_ways(rules, CHAIN, (1, (0,)), (2, (3,)))
        self.assertEqual(rules, RULES)

    def test_the_nets_are_alike_by_the_naming(self):
        chance = random.Random(24)
        apart = 0
        for _ in range(400):
            told = some_full_net(chance, 7)
            rules, places = some_rules(chance, told, 2)
            one, other = (0, places[0]), (1, places[1])
            if set(places[0]) & set(places[1]):
                with self.assertRaises(Shared):
                    both_ways(rules, told, one, other)
                continue
            apart += 1
            first, second, naming = both_ways(rules, told, one, other)
            behind = tuple(box - sum(gone < box for gone in places[0]) for box in places[1])
            self.assertEqual(first, laid(laid(told, rules[0], places[0]), rules[1], behind))
            behind = tuple(box - sum(gone < box for gone in places[1]) for box in places[0])
            self.assertEqual(second, laid(laid(told, rules[1], places[1]), rules[0], behind))
            self.assertIs(is_naming(first, second, naming), True)
        self.assertGreater(apart, 100)


if __name__ == "__main__":
    unittest.main()
