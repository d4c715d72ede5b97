"""Namings by which two nets are alike [9]."""

import itertools
import random
import unittest

from tests.samples import ANYTHING, EMPTY, NETS, STOCK, THROUGH, bent, net, shuffled, some_net
from weave.alike import is_naming, naming_of
from weave.nets import is_net


def is_naming_as_told(one, other, naming):
    """[9] said once more, of a tuple of all numbers of boxes in some order."""
    wires = [tuple(sorted((b if b < 0 else naming[b], p) for b, p in wire)) for wire in one[2]]
    kinds = all(other[1][there] == kind for there, kind in zip(naming, one[1]))
    return one[0] == other[0] and one[3] == other[3] and kinds and sorted(wires) == list(other[2])


class IsNamingTest(unittest.TestCase):
    ONE = net("add a b c, neg c d, neg d b, neg e f ; -n a, -n e, +n f ; n 2")
    ORDER = (2, 0, 3, 1)

    def setUp(self):
        self.other = shuffled(self.ONE, self.ORDER)
        self.assertIs(is_net(STOCK, self.other), True)

    def test_there_and_back(self):
        self.assertIs(is_naming(self.ONE, self.other, self.ORDER), True)
        self.assertIs(is_naming(self.other, self.ONE, (1, 3, 0, 2)), True)
        self.assertIs(is_naming(self.ONE, self.ONE, (0, 1, 2, 3)), True)

    def test_without_boxes(self):
        self.assertIs(is_naming(EMPTY, EMPTY, ()), True)
        self.assertIs(is_naming(THROUGH, THROUGH, ()), True)
        self.assertIs(is_naming(THROUGH, EMPTY, ()), False)
        self.assertIs(is_naming(EMPTY, EMPTY, []), False)
        self.assertIs(is_naming(EMPTY, EMPTY, (0,)), False)

    def test_other_outers(self):
        self.assertIs(is_naming(net("- ; +n a, -n a ; -"), net("- ; -n a, +n a ; -"), ()), False)
        self.assertIs(is_naming(net("- ; +n a, -n a ; -"), net("- ; +m a, -m a ; -"), ()), False)
        one = net("one a ; -n a, +n b, -n b ; -")
        self.assertIs(is_naming(one, net("one a ; -n a, +m b, -m b ; -"), (0,)), False)
        self.assertIs(is_naming(one, net("one a ; -n a ; -"), (0,)), False)

    def test_other_rings(self):
        bare = self.other[:3]
        for rings in ((), (("n", 1),), (("n", 3),), (("m", 2),), (("m", 1), ("n", 2))):
            self.assertIs(is_naming(self.ONE, bare + (rings,), self.ORDER), False)
            self.assertIs(is_naming(bare + (rings,), self.other, (0, 1, 2, 3)), False)

    def test_other_kinds(self):
        # Another kind with the same ports: all wires are the same.
        one = ((), ("add", "cut"), (((0, 0), (0, 2)), ((0, 1), (1, 0))), ())
        stock = STOCK[:1] + (("aids", STOCK[0][1]),) + STOCK[1:]
        other = ((), ("aids", "cut")) + one[2:]
        self.assertIs(is_net(stock, one) and is_net(stock, other), True)
        self.assertIs(is_naming(one, other, (0, 1)), False)
        self.assertIs(is_naming(one, one, (0, 1)), True)

    def test_other_wires(self):
        one = net("add a b c ; -n a, -n b, +n c ; -")
        self.assertIs(is_naming(one, net("add b a c ; -n a, -n b, +n c ; -"), (0,)), False)
        two = net("neg a b, neg b c ; -n a, +n c ; -")
        self.assertIs(is_naming(two, net("neg a c, neg b b ; -n a, +n c ; -"), (0, 1)), False)
        self.assertIs(is_naming(two, two, (1, 0)), False)
        crossed = net("- ; +n a, +n b, -n a, -n b ; -")
        self.assertIs(is_naming(crossed, net("- ; +n a, +n b, -n b, -n a ; -"), ()), False)

    def test_boxes_twice_missing_or_beyond(self):
        wrong = (
            (2, 0, 3, 3), (2, 0, 3, 0), (2, 0, 3), (2, 0, 3, 1, 0), (2, 0, 3, 1, 4), (2, 0, 3, -3), (-2, 0, 3, 1), (2, 0, 3, 4),
            (2, 0, 3, 10**29), (), (0, 1, 2, 3), (2, 0, 3, True), (2, False, 3, 1), [2, 0, 3, 1], (2, 0, 3, None),
            (2, 0, 3, "1"), (2, 0, 3, (1,)), ((2, 0, 3, 1),), "2031", (2, [0], 3, 1),
        )
        for naming in wrong:
            self.assertIs(is_naming(self.ONE, self.other, naming), False, naming)

    def test_every_tuple_of_numbers(self):
        one = net("neg a a, neg b b ; - ; -")
        for many in range(4):
            for naming in itertools.product(range(-2, 4), repeat=many):
                self.assertIs(is_naming(one, one, naming), naming in ((0, 1), (1, 0)))

    def test_nets_of_unlike_size(self):
        one, two = net("neg a a ; - ; -"), net("neg a a, neg b b ; - ; -")
        for naming in ((), (0,), (0, 1), (1,), (0, 0)):
            self.assertIs(is_naming(one, two, naming), False)
            self.assertIs(is_naming(two, one, naming), False)

    def test_of_anything(self):
        for thing in ANYTHING:
            self.assertIs(is_naming(self.ONE, self.other, thing), False)
        for thing in bent(self.ORDER):
            self.assertIs(is_naming(self.ONE, self.other, thing), False)


class NamingOfTest(unittest.TestCase):
    def check_alike(self, one, other):
        for here, there in ((one, other), (other, one)):
            naming = naming_of(here, there)
            self.assertIs(is_naming(here, there, naming), True)
            self.assertEqual(naming_of(here, there), naming)

    def check_unlike(self, one, other):
        self.assertIsNone(naming_of(one, other))
        self.assertIsNone(naming_of(other, one))

    def test_each_net_is_alike_to_itself(self):
        for told in NETS:
            self.check_alike(told, told)

    def test_the_same_boxes_in_every_order(self):
        for text in (
            "add a b c, dup c a e, neg e f, one g ; -n b, +n f, -n g ; n 1",
            "one a, cut a, one b, cut b ; +m x, -m x ; -",
            "neg a b, neg b a, neg c c, neg d d ; - ; -",
            "neg a b, neg b c, neg c d, neg d a ; - ; -",
            "neg a b, neg c d, neg e e, neg f f ; -n a, +n b, -n c, +n d ; -",
        ):
            told = net(text)
            for order in itertools.permutations(range(4)):
                self.check_alike(told, shuffled(told, order))

    def test_several_like_parts(self):
        told = net(", ".join(f"one a{at}, cut a{at}, neg b{at} b{at}, dup c{at} c{at} d{at}, one d{at}" for at in range(8)) + " ; - ; -")
        order = list(range(40))
        chance = random.Random(3)
        for _ in range(20):
            chance.shuffle(order)
            self.check_alike(told, shuffled(told, order))

    def test_unlike_nets_with_the_same_kinds_and_outers(self):
        pairs = (
            ("neg a b, neg b a ; - ; -", "neg a a, neg b b ; - ; -"),
            ("neg a b, neg b c ; -n a, +n c ; -", "neg a c, neg b b ; -n a, +n c ; -"),
            ("add a b c ; -n a, -n b, +n c ; -", "add b a c ; -n a, -n b, +n c ; -"),
            ("neg a a ; +n b, -n b ; -", "neg a b ; -n a, +n b ; -"),
            ("neg a b ; -n a, +n b, -n c, +n c ; -", "neg a b ; -n c, +n b, -n a, +n c ; -"),
            ("neg a b, neg b c, neg c a, neg d e, neg e f, neg f d ; - ; -", "neg a b, neg b c, neg c d, neg d e, neg e f, neg f a ; - ; -"),
            ("neg a b, neg b c, neg c d, neg d a, neg e e ; - ; -", "neg a b, neg b c, neg c a, neg d e, neg e d ; - ; -"),
            ("- ; +n a, +n b, -n a, -n b ; -", "- ; +n a, +n b, -n b, -n a ; -"),
        )
        for one, other in pairs:
            self.check_unlike(net(one), net(other))

    def test_unlike_outers_rings_or_kinds(self):
        texts = (
            "- ; - ; -", "- ; - ; n 1", "- ; - ; n 2", "- ; - ; m 1", "- ; - ; m 1, n 1", "- ; +n a, -n a ; -",
            "- ; -n a, +n a ; -", "- ; +m a, -m a ; -", "neg a a ; - ; -", "neg a a ; - ; n 1", "neg a a ; +n b, -n b ; -",
            "neg a a, neg b b ; - ; -", "one a, cut a ; - ; -", "add a b a, cut b ; - ; -", "dup a a b, one b ; - ; -",
            "neg a a, neg b b, neg c c ; - ; -",
        )
        nets = [net(text) for text in texts]
        for one, other in itertools.combinations(nets, 2):
            self.check_unlike(one, other)
        for told in nets:
            self.check_alike(told, told)

    def test_as_told_for_small_nets(self):
        chance = random.Random(4)
        nets = [some_net(chance, 4) for _ in range(150)]
        for one in nets:
            self.assertIs(is_net(STOCK, one), True)
            order = chance.sample(range(len(one[1])), len(one[1]))
            for other in chance.sample(nets, 30) + [shuffled(one, order)]:
                alike = []
                if len(one[1]) == len(other[1]):
                    orders = itertools.permutations(range(len(one[1])))
                    alike = [naming for naming in orders if is_naming_as_told(one, other, naming)]
                if alike:
                    self.assertIn(naming_of(one, other), alike)
                else:
                    self.assertIsNone(naming_of(one, other))
                for naming in alike:
                    self.assertIs(is_naming(one, other, naming), True)


if __name__ == "__main__":
    unittest.main()
