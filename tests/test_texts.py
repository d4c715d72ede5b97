"""Nets and stocks as texts [7], [8]."""

import unittest

from tests.samples import EMPTY, LOOP, MINUS, NETS, PLUS, SAMPLE, SAMPLE_TEXT, STOCK, THROUGH
from weave.errors import NoStock, NoText, Twice
from weave.nets import is_net
from weave.texts import read_net, read_stock, show_kind, show_net

SIGNS = [chr(code) for code in range(32, 127) if code != 37]


class ShowNetTest(unittest.TestCase):
    def test_the_sample(self):
        self.assertEqual(show_net(SAMPLE), SAMPLE_TEXT)

    def test_where_there_are_none_of_a_part(self):
        self.assertEqual(show_net(EMPTY), "- ; - ; -")
        self.assertEqual(show_net(THROUGH), "- ; +n 0, -n 0 ; -")
        self.assertEqual(show_net(LOOP), "neg 0 0 ; - ; m 1, n 12")

    def test_ports_and_wires_by_number_beyond_ten(self):
        many = 12
        wires = tuple(((box, 0), (box, 1)) for box in range(many))
        text = ", ".join(f"neg {box} {box}" for box in range(many)) + " ; - ; -"
        self.assertEqual(show_net(((), ("neg",) * many, wires, ())), text)

    def test_many_of_more_than_nine_figures_is_shown(self):
        self.assertEqual(show_net(((), (), (), (("n", 10**29),))), "- ; - ; n 1" + "0" * 29)


class ReadNetTest(unittest.TestCase):
    def check_none(self, *texts):
        for text in texts:
            with self.assertRaises(NoText, msg=text) as caught:
                read_net(STOCK, text)
            self.assertEqual(caught.exception.at, 0)

    def test_what_is_shown_is_read(self):
        for net in NETS:
            if all(many < 10**9 for sort, many in net[3]):
                self.assertEqual(read_net(STOCK, show_net(net)), net)

    def test_a_hundred_wires(self):
        wires = tuple(((box, 0), (box + 1, 1)) for box in range(98))
        net = ((PLUS, MINUS), ("neg",) * 99, (((-1, 0), (0, 1)), ((-1, 1), (98, 0))) + wires, (("n", 999999999),))
        self.assertIs(is_net(STOCK, net), True)
        self.assertEqual(read_net(STOCK, show_net(net)), net)

    def test_wires_called_by_other_words(self):
        texts = (
            "add ab 3 zzzzzzzz, cut 3 ; +n zzzzzzzz, +n 00, -n 00, -n ab ; -",
            "add 2 02 0, cut 02 ; +n 0, +n 1, -n 1, -n 2 ; -",
            "add n add cut, cut add ; +n cut, +n 12345678, -n 12345678, -n n ; -",
            "add 0 1 2, cut 1 ; +n 2, +n a1b2c3d4, -n a1b2c3d4, -n 0 ; -",
        )
        for text in texts:
            self.assertEqual(read_net(STOCK, text), SAMPLE)

    def test_outers_of_sorts_that_no_kind_has(self):
        self.assertEqual(
            read_net(STOCK, "- ; -zz 0, +zz 0 ; zz 1"),
            ((("zz", "-"), ("zz", "+")), (), THROUGH[2], (("zz", 1),)),
        )

    def test_three_parts(self):
        self.check_none(
            "", " ", "-", "- ; -", "- ; - ; - ; -", "- ; - ; - ; ", " ; - ; - ; -", "-;-;-", "- ;- ; -", "-; - ; -",
            "- ;  - ; -", "-  ; - ; -", " - ; - ; -", "- ; - ; - ", "- ; ; -", " ;  ; ", "- ; - , -", "- ; - ; ", " ; - ; -",
            "- ;  ; -", "-- ; - ; -", "- ; - ; --", "- ; -- ; -", "; ; ",
        )

    def test_every_sign_left_out_or_doubled(self):
        text = "neg a b, one c ; -n c, +n b, -n a ; m 1, n 23"
        net = read_net(STOCK, text)
        self.assertEqual(net[1], ("neg", "one"))
        for at in range(len(text)):
            left_out = text[:at] + text[at + 1:]
            if text[at] not in "1" + "23":
                self.check_none(left_out)
        for at, sign in enumerate(text):
            if sign in " ,;-+":
                self.check_none(text[:at] + sign + text[at:])

    def test_every_sign_put_for_another(self):
        text = "neg a b ; +n b, -n a ; n 2"
        for at in range(len(text)):
            for sign in SIGNS:
                changed = text[:at] + sign + text[at + 1:]
                if sign == text[at]:
                    continue
                in_sort = at == text.index("; n") + 2 and sign.isalpha() and sign.islower()
                in_many = at == len(text) - 1 and sign in "123456789"
                if in_sort or in_many:
                    self.assertEqual(read_net(STOCK, changed)[:3], read_net(STOCK, text)[:3])
                else:
                    self.check_none(changed)

    def test_boxes(self):
        self.check_none(
            "neg ; - ; -", "neg 0 ; - ; -", "neg 0 0 0 ; - ; -", "neg 0 0 1 1 ; - ; -", "nix 0 0 ; - ; -",
            "Neg 0 0 ; - ; -", "0 0 ; - ; -", "neg  0 0 ; - ; -", "neg 0  0 ; - ; -", "neg 0 0,neg 1 1 ; - ; -",
            "neg 0 0 , neg 1 1 ; - ; -", "neg 0 0,  neg 1 1 ; - ; -", "neg 0 0, ; - ; -", "neg 0 0,  ; - ; -",
            ", neg 0 0 ; - ; -", "neg 0 0, - ; - ; -", "-, neg 0 0 ; - ; -", "neg 0 0 - ; - ; -", "neg 0 0; - ; -",
            "neg, 0 0 ; - ; -", "neg 0, 0 ; - ; -", "neg 0 0 ; neg 1 1 ; -", "neg 0 0 ; -", "n 2 ; - ; -",
        )
        self.assertEqual(read_net(STOCK, "neg 0 0, neg 1 1 ; - ; -")[1], ("neg", "neg"))

    def test_kinds_of_another_stock(self):
        self.assertEqual(read_net(STOCK[:2], SAMPLE_TEXT), SAMPLE)
        with self.assertRaises(NoText):
            read_net(STOCK[:1], SAMPLE_TEXT)

    def test_names_of_wires(self):
        for name in ("", "A", "a_", "-", "+", "a-b", "123456789", "abcdefghi", ";", ",", "0,", "=", ".", "a.b"):
            self.check_none(f"neg {name} {name} ; - ; -", f"- ; +n {name}, -n {name} ; -")
            self.check_none(f"neg {name} b, neg b {name} ; - ; -", f"one {name}, cut {name} ; - ; -")
        for name in ("a", "0", "00", "12345678", "abcdefgh", "z9"):
            self.assertEqual(read_net(STOCK, f"neg {name} {name} ; - ; -"), ((), ("neg",), LOOP[2], ()))
            self.assertEqual(read_net(STOCK, f"- ; +n {name}, -n {name} ; -"), THROUGH)

    def test_a_wires_name_stands_twice(self):
        self.check_none(
            "neg 0 1 ; - ; -", "one 0 ; - ; -", "- ; +n 0 ; -", "- ; +n 0, -n 1 ; -", "- ; +n 0, -n 0, +n 0 ; -",
            "neg 0 0 ; +n 0 ; -", "neg 0 0 ; +n 0, -n 0 ; -", "neg 0 0, neg 0 0 ; - ; -", "neg 1 01 ; - ; -",
            "neg 0 1 ; +n 1 ; -", "neg 0 0, one 0 ; - ; -",
        )

    def test_wires_join_mates(self):
        self.check_none(
            "one 0, one 0 ; - ; -", "cut 0, cut 0 ; - ; -", "one 0 ; +n 0 ; -", "one 0 ; -m 0 ; -", "- ; +n 0, +n 0 ; -",
            "- ; +n 0, -m 0 ; -", "two 0 1 1 0 ; - ; -", "two 0 1 0 1 ; - ; -", "add 0 0 1 ; +n 1 ; -",
        )
        self.assertEqual(read_net(STOCK, "one 0 ; -n 0 ; -"), ((MINUS,), ("one",), (((-1, 0), (0, 0)),), ()))

    def test_outers(self):
        self.check_none(
            "- ; n 0, -n 0 ; -", "- ; +n, -n ; -", "- ; + n 0, -n 0 ; -", "- ; +n 0 0, -n 0 ; -", "- ; n+ 0, -n 0 ; -",
            "- ; ++n 0, -n 0 ; -", "- ; +N 0, -N 0 ; -", "- ; + 0, - 0 ; -", "- ; +abcdefghi 0, -abcdefghi 0 ; -",
            "- ; +n 0,-n 0 ; -", "- ; +n 0, -n 0, ; -", "- ; +n 0, -n 0, - ; -", "- ; -, +n 0, -n 0 ; -",
            "- ; +n  0, -n 0 ; -", "- ; +n1 0, -n1 0 ; -", "- ; 0, 0 ; -", "- ; +n 0, -n 0  ; -",
        )
        long = "- ; +abcdefgh 0, -abcdefgh 0 ; -"
        self.assertEqual(read_net(STOCK, long)[0], (("abcdefgh", "+"), ("abcdefgh", "-")))

    def test_rings(self):
        right = {
            "n 1": (("n", 1),), "n 999999999": (("n", 999999999),), "a 10, b 2": (("a", 10), ("b", 2)),
            "a 2, aa 1, b 1": (("a", 2), ("aa", 1), ("b", 1)), "abcdefgh 7": (("abcdefgh", 7),),
        }
        for text, rings in right.items():
            self.assertEqual(read_net(STOCK, "- ; - ; " + text), ((), (), (), rings))
        wrong = (
            "n", "n 0", "n 01", "n 00", "n 1234567890", "n 1000000000", "n -1", "n +1", "n 1a", "n a", "n 1_0", "n 1 1",
            "n  1", "1 n", "N 1", "+n 1", "abcdefghi 1", "n1 1", "b 1, a 1", "a 1, a 1", "a 1, a 2", "a 2, a 1", "b 1,c 1",
            "b 1, c 1,", "b 1, -", "-, b 1", "n 1.", "aa 1, a 1", "a 1, c 1, b 1", "n ", " 1", "n 0000000001",
        )
        self.check_none(*["- ; - ; " + text for text in wrong])


class KindTest(unittest.TestCase):
    ADD = ("add", (PLUS, PLUS, MINUS))
    CUT = ("cut", (MINUS,))

    def check_none(self, at, texts):
        with self.assertRaises(NoText, msg=texts) as caught:
            read_stock(texts)
        self.assertEqual(caught.exception.at, at)

    def check_twice(self, name, texts):
        with self.assertRaises(Twice, msg=texts) as caught:
            read_stock(texts)
        self.assertEqual(caught.exception.name, name)

    def test_samples_shown(self):
        self.assertEqual(show_kind(*self.ADD), "add = +n +n -n")
        self.assertEqual(show_kind(*self.CUT), "cut = -n")

    def test_samples_read_in_any_order(self):
        self.assertEqual(read_stock(["add = +n +n -n", "cut = -n"]), (self.ADD, self.CUT))
        self.assertEqual(read_stock(["cut = -n", "add = +n +n -n"]), (self.ADD, self.CUT))
        self.assertEqual(read_stock(["cut = -n"]), (self.CUT,))

    def test_what_is_shown_is_read_and_the_list_stays(self):
        texts = [show_kind(kind, ports) for kind, ports in reversed(STOCK)]
        handed = list(texts)
        self.assertEqual(read_stock(texts), STOCK)
        self.assertEqual(texts, handed)

    def test_each_condition_broken(self):
        wrong = (
            "", " ", "=", "cut", "cut =", "cut = ", "cut  = -n", "cut =  -n", "cut = -n ", " cut = -n", "cut -n", "cut= -n",
            "cut =-n", "cut=-n", "cut == -n", "cut = n", "cut = -", "cut = - n", "cut = n-", "cut = -N", "cut = -n1",
            "cut = *n", "cut = -n, -n", "cut = -n -n -n -n -n", "cut = -abcdefghi", "Cut = -n", "cut1 = -n",
            "abcdefghi = -n", " = -n", "= -n", "cut = -n =", "cut = = -n", "-n = cut", "cut = -n-n", "cut = --n",
        )
        for text in wrong:
            self.check_none(0, [text])
            self.check_none(2, ["add = +n +n -n", "cut = -n", text])

    def test_every_sign_put_for_another(self):
        text = "ab = +c -d"
        for at in range(len(text)):
            for sign in SIGNS:
                changed = text[:at] + sign + text[at + 1:]
                letter = text[at].isalpha() and sign in "abcdefghijklmnopqrstuvwxyz"
                side = text[at] in "+-" and sign in "+-"
                if letter or side or changed == text:
                    self.assertEqual(show_kind(*read_stock([changed])[0]), changed)
                else:
                    self.check_none(0, [changed])

    def test_one_to_four_ports(self):
        for many in range(1, 5):
            text = "cut =" + " -n" * many
            self.assertEqual(read_stock([text]), (("cut", (MINUS,) * many),))

    def test_the_first_text_that_is_none(self):
        self.check_none(1, ["cut = -n", "no", "cut = -n", "no"])
        self.check_none(3, ["cut = -n", "cut = -n", "cut = +n", "no"])
        self.check_none(9, ["cut = -n"] * 9 + ["no"])
        self.check_none(0, ["no"] * 12)

    def test_twice_tells_the_first_kind_that_stands_ahead(self):
        self.check_twice("cut", ["cut = -n", "cut = -n"])
        self.check_twice("cut", ["cut = -n", "cut = +n"])
        self.check_twice("b", ["a = +n", "b = +n", "c = +n", "b = -n", "a = -n"])
        self.check_twice("a", ["b = +n", "a = +n", "a = -n", "b = -n"])
        self.check_twice("a", ["a = +n"] * 9)
        self.check_twice("h", [letter + " = +n" for letter in "abcdefgh"] + ["i = +n", "h = +n"])

    def test_none_or_more_than_eight(self):
        texts = [letter + " = +n" for letter in "ihgfedcba"]
        for wrong in ([], texts):
            with self.assertRaises(NoStock):
                read_stock(wrong)
        self.assertEqual([kind for kind, ports in read_stock(texts[1:])], list("abcdefgh"))


if __name__ == "__main__":
    unittest.main()
