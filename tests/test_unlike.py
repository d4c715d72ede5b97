"""Papers that show two nets unlike [11], and that there is a naming or a paper, never both [3]."""

import itertools
import random
import unittest

from tests.samples import ANYTHING, LOOP, NETS, SAMPLE, STOCK, bent, net, shuffled, some_net
from weave.alike import is_naming, naming_of
from weave.nets import is_net
from weave.parts import part_at
from weave.unlike import shows_unlike, unlike_of


TEXTS = (
    "- ; - ; -", "- ; - ; n 1", "- ; - ; n 2", "- ; - ; m 1", "- ; +n a, -n a ; -", "- ; -n a, +n a ; -",
    "- ; +n a, +n b, -n a, -n b ; -", "- ; +n a, +n b, -n b, -n a ; -", "- ; +n a, +n b, -n b, -n a ; n 1",
    "neg a a ; - ; -", "neg a a, neg b b ; - ; -", "neg a b, neg b a ; - ; -", "neg b a, neg a b ; - ; -",
    "neg a a ; +n b, -n b ; -", "neg a b ; +n b, -n a ; -", "neg a b ; -n a, +n b ; -", "one a, cut a ; - ; -",
    "cut a, one a ; - ; -", "one a, cut a, one b, cut b ; - ; -", "one a, one b, cut a, cut b ; - ; -",
    "neg a b, neg b c, neg c a, neg d e, neg e f, neg f d ; - ; -",
    "neg a b, neg b c, neg c d, neg d e, neg e f, neg f a ; - ; -",
    "neg a b, neg c d, neg e f, neg b a, neg d c, neg f e ; - ; -",
    "add a b c ; -n a, -n b, +n c ; -", "add b a c ; -n a, -n b, +n c ; -",
    "neg a b, neg b c ; -n a, +n c ; -", "neg b c, neg a b ; -n a, +n c ; -", "neg a c, neg b b ; -n a, +n c ; -",
)


class UnlikeOfTest(unittest.TestCase):
    def check_just_one(self, one, other):
        naming, paper = naming_of(one, other), unlike_of(one, other)
        self.assertNotEqual(naming is None, paper is None)
        if naming is None:
            self.assertIs(shows_unlike(STOCK, one, other, paper), True)
        else:
            self.assertIs(is_naming(one, other, naming), True)
        self.assertEqual(naming_of(one, other), naming)
        self.assertEqual(unlike_of(one, other), paper)
        return paper

    def test_just_one_of_both_either_way_about(self):
        for one, other in itertools.product([net(text) for text in TEXTS], repeat=2):
            self.check_just_one(one, other)

    def test_nets_by_chance(self):
        chance = random.Random(5)
        nets = [some_net(chance, 4) for _ in range(120)]
        alike = 0
        for one, other in itertools.product(nets, repeat=2):
            alike += self.check_just_one(one, other) is None
        self.assertGreater(alike, len(nets))

    def test_larger_nets_in_another_order(self):
        chance = random.Random(6)
        for _ in range(60):
            one = some_net(chance, 14)
            order = chance.sample(range(len(one[1])), len(one[1]))
            self.assertIsNone(self.check_just_one(one, shuffled(one, order)))
            self.check_just_one(one, some_net(chance, 14))

    def test_two_wires_of_a_larger_net_exchanged(self):
        chance = random.Random(7)
        for _ in range(60):
            outers, boxes, wires, rings = one = some_net(chance, 10)
            if len(wires) < 2:
                continue
            (a, b), (c, d) = chance.sample(wires, 2)
            rest = [wire for wire in wires if wire not in ((a, b), (c, d))]
            for pairs in ([(a, c), (b, d)], [(a, d), (b, c)]):
                new = tuple(sorted(rest + [tuple(sorted(pair)) for pair in pairs]))
                other = (outers, boxes, new, rings)
                if is_net(STOCK, other):
                    self.check_just_one(one, other)
                    self.check_just_one(other, one)

    def test_nets_that_are_alike_have_no_paper(self):
        for told in NETS:
            self.assertIsNone(unlike_of(told, told))

    def test_no_paper_shows_alike_nets_unlike(self):
        papers = [("outers",), ("rings",), ("wire", 0, 1), ("wire", 1, 2)]
        for told in NETS:
            for box in range(len(told[1])):
                papers += [("part", part_at(told, box), many, other) for many in range(3) for other in range(3)]
        for told in NETS:
            for paper in papers:
                self.assertIs(shows_unlike(STOCK, told, told, paper), False)


class ShowsUnlikeTest(unittest.TestCase):
    def check(self, truth, one, other, *papers):
        for paper in papers:
            self.assertIs(shows_unlike(STOCK, one, other, paper), truth, paper)

    def test_outers(self):
        one, other, third = net("- ; +n a, -n a ; -"), net("- ; -n a, +n a ; -"), net("- ; +n a, -n a ; n 1")
        self.check(True, one, other, ("outers",))
        self.check(True, one, net("- ; - ; -"), ("outers",))
        self.check(False, one, third, ("outers",))
        self.check(False, one, other, ("outers", 0), ("outers", ()), "outers", ["outers"], ("outer",), (("outers",),), ())

    def test_rings(self):
        one, other = net("- ; +n a, -n a ; -"), net("- ; +n a, -n a ; n 1")
        self.check(True, one, other, ("rings",))
        self.check(True, net("- ; - ; n 2"), net("- ; - ; n 1"), ("rings",))
        self.check(True, net("- ; +n a, -n a ; n 1"), net("- ; - ; -"), ("rings",))
        self.check(False, one, net("- ; -n a, +n a ; -"), ("rings",))
        self.check(False, one, other, ("rings", 0), "rings", ["rings"], ("ring",), ("rings", "n"))

    def test_wire(self):
        one, other = net("- ; +n a, +n b, -n a, -n b ; -"), net("- ; +n a, +n b, -n b, -n a ; -")
        for low, high in itertools.product(range(-2, 5), repeat=2):
            self.check((low, high) in ((0, 2), (0, 3), (1, 2), (1, 3)), one, other, ("wire", low, high))
            self.check(False, one, one, ("wire", low, high))
        self.check(
            False, one, other, ("wire", 0), ("wire",), ("wire", 0, 2, 2), ["wire", 0, 2], ("wire", [0], 2), ("wire", 0, "2"),
            ("wire", None, 2), ("wire", False, 2), ("wires", 0, 2), ("wire", (0, 2)), ("wire", True, 3), ("wire", True, 2),
            ("part", 0, 2), (0, 2),
        )

    def test_wire_of_truths(self):
        one, other = net("neg a b ; +n b, -n a ; -"), net("neg c c ; +n a, -n a ; -")
        self.check(True, one, other, ("wire", 0, 1))
        self.check(True, other, one, ("wire", 0, 1))
        self.check(False, one, other, ("wire", 0, True), ("wire", False, 1), ("wire", False, True), ("wire", 1, 0))

    def test_wire_of_nets_with_other_outers(self):
        one, other = net("- ; +n a, -n a, +n b, -n b ; -"), net("- ; +m a, +n b, -m a, -n b ; -")
        self.check(True, one, other, ("wire", 0, 1), ("wire", 2, 3), ("wire", 0, 2), ("wire", 1, 3), ("outers",))
        self.check(False, one, other, ("wire", 0, 3), ("wire", 1, 2))
        # Not as many outers: no paper of this form.
        self.check(False, one, net("- ; +n a, -n a ; -"), ("wire", 2, 3), ("wire", 0, 1), ("wire", 0, 2))
        self.check(False, one, net("one a, one b, one c ; -n a, -n b, -n c ; -"), ("wire", 0, 1), ("wire", 2, 3))

    def test_part(self):
        one = net("one a, cut a, one b, cut b, neg c c ; - ; -")
        other = net("one a, cut a, neg b b, neg c d, neg d c ; - ; -")
        pair, loop = part_at(one, 0), part_at(one, 4)
        turned, two = part_at(one, 1), part_at(other, 3)
        self.check(True, one, other, ("part", pair, 2, 1), ("part", turned, 2, 1), ("part", two, 0, 2))
        self.check(True, other, one, ("part", pair, 1, 2), ("part", turned, 1, 2), ("part", two, 2, 0))
        self.check(False, one, other, ("part", pair, 1, 2), ("part", turned, 1, 2), ("part", two, 2, 0))
        self.check(False, one, other, ("part", loop, 1, 1), ("part", loop, 1, 0), ("part", loop, 0, 1), ("part", loop, 2, 1))
        self.check(False, one, other, ("part", pair, 2, 0), ("part", pair, 3, 1), ("part", pair, 2, 2), ("part", pair, 1, 1))
        self.check(False, one, other, ("part", pair, 2, True), ("part", two, False, 2), ("part", pair, "2", 1))
        self.check(False, one, other, ("part", pair, 2, None), ("part", pair, [2], 1), ("part", pair, 2, (1,)))
        self.check(False, one, other, ("part", pair, 2), ("part", pair), ("part",), ("part", pair, 2, 1, 0))
        self.check(False, one, other, ["part", pair, 2, 1], ("parts", pair, 2, 1), (pair, 2, 1), ("wire", pair, 2, 1))

    def test_part_to_outers_of_nets_with_other_outers(self):
        one, other = net("one a, cut b ; -n a, +n b ; -"), net("cut b ; +n b ; -")
        self.check(True, one, other, ("part", (("one",), (((-1, 0), (0, 0)),)), 1, 0))
        self.check(True, one, other, ("part", (("cut",), (((-1, 0), (0, 0)),)), 0, 1))
        self.check(True, one, other, ("part", (("cut",), (((-1, 1), (0, 0)),)), 1, 0))
        self.check(False, one, other, ("part", (("cut",), (((-1, 2), (0, 0)),)), 1, 0))

    def test_part_whose_other_boxes_stand_in_any_order(self):
        one, other = net("add a b c, dup d a b, neg c d ; - ; -"), net("add a b c, dup d b a, neg c d ; - ; -")
        self.assertIsNone(naming_of(one, other))
        for order in itertools.permutations(range(3)):
            part = shuffled(one, order)[1:3]
            self.check(True, one, other, ("part", part, 1, 0))
            self.check(True, other, one, ("part", part, 0, 1))

    def test_parts_that_are_none(self):
        one, other = net("one a, cut a, one b, cut b ; - ; -"), net("neg a a ; - ; -")
        wire = ((0, 0), (1, 0))
        self.check(True, one, other, ("part", (("one", "cut"), (wire,)), 2, 0))
        wrong = (
            (("one", "cut", "one", "cut"), (wire, ((2, 0), (3, 0)))), (("one", "cut"), ()), (("one",), ()), ((), ()),
            (("one",), (wire,)), (("one", "cut"), [wire]), (["one", "cut"], (wire,)), [("one", "cut"), (wire,)],
            (("one", "cut"), (list(wire),)), (("one", "cut"), (wire, wire)), (("one", "cut"), (wire[::-1],)),
            (("one", "nix"), (wire,)), (("one", "cut"), (((False, 0), (1, 0)),)), (("one", "cut"), (((0, 0), (True, 0)),)),
            (("one", "cut"), (((0, 0), (1, False)),)), (("one", "cut"), (wire,), ()), (("one", "cut"),),
            (("one", "cut", "one"), (wire,)), (("one", "cut"), wire), (("one", "cut"), (wire[:1],)),
            (("one", "cut"), (wire + wire,)), (("one", "cut"), (([0, 0], (1, 0)),)),
        )
        for part in wrong:
            for many in range(5):
                self.check(False, one, other, ("part", part, many, 0))

    def test_parts_with_wrong_outers(self):
        one, other = net("neg a b ; -n a, +n b, +n c, -n c ; -"), net("neg a b ; -n c, +n b, +n c, -n a ; -")
        ends = (((-1, 0), (0, 0)), ((-1, 1), (0, 1)))
        self.check(True, one, other, ("part", (("neg",), ends), 1, 0))
        wrong = (
            # Two outers side by side, an outer twice, and one below 0.
            ends[:1] + (((-1, 1), (0, 1)), ((-1, 2), (-1, 3))), (((-1, 2), (-1, 3)),) + ends,
            ends[:1] + (((-1, 0), (0, 1)),), (((-1, -1), (0, 0)), ((-1, 1), (0, 1))), ends[1:], ends[:1], ends[::-1],
            (((-2, 0), (0, 0)), ((-1, 1), (0, 1))), (((-2, 0), (-1, 4)),) + ends, (((-1, False), (0, 0)), ((-1, 1), (0, 1))),
            (((-1, 0), (0, 0)), ((-1, True), (0, 1))), ends + (((0, 2), (0, 3)),),
            tuple(sorted(ends + (((-1, 2), (-1, 3)),))),
        )
        for wires in wrong:
            for many, few in itertools.product(range(2), repeat=2):
                self.check(False, one, other, ("part", (("neg",), wires), many, few))

    def test_of_anything(self):
        for thing in ANYTHING:
            self.check(False, SAMPLE, LOOP, thing)
            self.check(False, SAMPLE, LOOP, ("part", thing, 1, 0), ("wire", thing, 2), ("wire", 1, thing))
            self.check(thing == 1 and thing is not True, SAMPLE, LOOP, ("part", part_at(SAMPLE, 0), thing, 0))

    def test_one_spot_of_another_kind(self):
        other = net("add a b c, cut b ; +m x, +n c, -n a, -m x ; n 1")
        for paper in (("outers",), ("rings",), ("wire", 1, 2), ("wire", 0, 3), ("part", part_at(SAMPLE, 0), 1, 0)):
            self.check(True, SAMPLE, other, paper)
            self.check(False, SAMPLE, other, *bent(paper))


if __name__ == "__main__":
    unittest.main()
