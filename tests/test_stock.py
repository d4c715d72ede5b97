"""Names, specs and stocks [4], [5]."""

import unittest

from tests.samples import ANYTHING, MINUS, PLUS, STOCK, bent
from weave.stock import is_name, is_spec, is_stock, mate_of, ports_of


def kinds_many(many):
    return tuple((letter, (PLUS,)) for letter in "abcdefghijkl"[:many])


class NameTest(unittest.TestCase):
    def test_right_names(self):
        for name in ("a", "z", "n", "abcdefgh", "zzzzzzzz", "aa", "qrstuv", "ijklmnop", "wxy"):
            self.assertIs(is_name(name), True, name)

    def test_length(self):
        self.assertIs(is_name(""), False)
        self.assertIs(is_name("abcdefghi"), False)

    def test_every_other_sign_is_none_of_a_name(self):
        letters = "abcdefghijklmnopqrstuvwxyz"
        for code in range(32, 127):
            sign = chr(code)
            if sign == chr(37):
                continue
            for name in (sign, "a" + sign, sign + "a", "ab" + sign + "cd"):
                self.assertIs(is_name(name), sign in letters, name)

    def test_of_anything(self):
        for thing in ANYTHING:
            if not isinstance(thing, str):
                self.assertIs(is_name(thing), False)
        for thing in (["a"], ("a",), ("a", "b"), ["a", "b"]):
            self.assertIs(is_name(thing), False, thing)


class SpecTest(unittest.TestCase):
    def test_right_specs(self):
        for spec in (("n", "+"), ("n", "-"), ("abcdefgh", "+")):
            self.assertIs(is_spec(spec), True, spec)

    def test_each_condition_broken(self):
        wrong = (
            ("n",), ("n", "+", "+"), ("n", "+", ()), ("+", "n"), ("", "+"), ("N", "+"), ("abcdefghi", "+"), ("n", ""),
            ("n", "+-"), ("n", "++"), ("n", " "), ("n", "*"), ("n", "n"), ["n", "+"], "n+", ("n+",), (("n",), "+"),
        )
        for spec in wrong:
            self.assertIs(is_spec(spec), False, spec)

    def test_of_anything(self):
        for thing in ANYTHING:
            self.assertIs(is_spec(thing), thing == ("n", "+"))
        for thing in bent(("n", "+")):
            self.assertIs(is_spec(thing), False, thing)

    def test_mate_there_and_back(self):
        self.assertEqual(mate_of(("n", "+")), ("n", "-"))
        self.assertEqual(mate_of(("n", "-")), ("n", "+"))
        for spec in (PLUS, MINUS, ("wire", "+"), ("wire", "-")):
            self.assertEqual(mate_of(mate_of(spec)), spec)
            self.assertIs(is_spec(mate_of(spec)), True)


class StockTest(unittest.TestCase):
    def test_right_stocks(self):
        right = (STOCK, STOCK[:1], kinds_many(8), (("a", (PLUS,) * 4),), (("a", (MINUS,)), ("aa", (PLUS,)), ("b", (PLUS,))))
        for stock in right:
            self.assertIs(is_stock(stock), True, stock)

    def test_how_many_kinds(self):
        for many in range(1, 9):
            self.assertIs(is_stock(kinds_many(many)), True, many)
        self.assertIs(is_stock(()), False)
        self.assertIs(is_stock(kinds_many(9)), False)

    def test_how_many_ports(self):
        for many in range(0, 7):
            self.assertIs(is_stock((("a", (PLUS,) * many),)), 1 <= many <= 4, many)

    def test_order(self):
        self.assertIs(is_stock((("b", (PLUS,)), ("a", (PLUS,)))), False)
        self.assertIs(is_stock((("a", (PLUS,)), ("c", (PLUS,)), ("b", (PLUS,)))), False)
        self.assertIs(is_stock((("b", (PLUS,)), ("a", (PLUS,)), ("c", (PLUS,)))), False)
        self.assertIs(is_stock((("aa", (PLUS,)), ("a", (PLUS,)))), False)

    def test_a_kind_twice(self):
        self.assertIs(is_stock((("a", (PLUS,)), ("a", (PLUS,)))), False)
        self.assertIs(is_stock((("a", (PLUS,)), ("a", (MINUS,)))), False)
        self.assertIs(is_stock((("a", (MINUS,)), ("a", (PLUS,)))), False)

    def test_kinds_and_ports_of_other_forms(self):
        wrong = (
            (("a",),), (("a", (PLUS,), ()),), (("", (PLUS,)),), (("A", (PLUS,)),), (("abcdefghi", (PLUS,)),),
            (("a", PLUS),), (("a", (("n", "*"),)),), (("a", (PLUS, ("N", "+"))),), ("a", (PLUS,)), (((PLUS,), "a"),),
            kinds_many(3) + ((),), kinds_many(3) + (None,),
        )
        for stock in wrong:
            self.assertIs(is_stock(stock), False, stock)

    def test_of_anything(self):
        for thing in ANYTHING:
            self.assertIs(is_stock(thing), False)
        for thing in bent(STOCK):
            self.assertIs(is_stock(thing), False, thing)

    def test_ports_of(self):
        for kind, ports in STOCK:
            self.assertEqual(ports_of(STOCK, kind), ports)


if __name__ == "__main__":
    unittest.main()
