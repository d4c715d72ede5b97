"""A desk that is told rows of text [39], [40], [7]."""

import random
import unittest

from tests.samples import CHAINS, STOCK, chain, chain_rule
from weave.complete import complete
from weave.desk import Desk
from weave.errors import NoAsk, NoDeed, NoPlace, NoRule, NoText, NoThing, TooMany
from weave.texts import read_net, show_net
from weave.weights import weighed

NOTHING = "- ; - ; -"
AB = "a x y, b y z ; -n x, +n z ; -"
AB_SHOWN = "a 0 2, b 2 1 ; -n 0, +n 1 ; -"
BA_SHOWN = "b 0 2, a 2 1 ; -n 0, +n 1 ; -"

# All that is asked of what stands in the desk of the tests of refusals.
ASKED = (
    "rules", "nets", "show net n", "show net m", "show rule r", "show rule s", "places r n", "rest n", "joins",
    "complete 3", "least", "alike n m", "same n m",
)
# Rows that are right there, one of each form.
RIGHT = ASKED + (
    f"rule r {AB} => {AB_SHOWN}", f"rule t {AB} => {AB}", f"net n {AB}", f"net k {NOTHING}", "drop rule r", "drop net n",
    "lay r n 0", "undo",
)


def text(word):
    return show_net(chain(word))


def rule_row(name, left, right):
    return f"rule {name} {text(left)} => {text(right)}"


def net_row(name, word):
    return f"net {name} {text(word)}"


class DeskTest(unittest.TestCase):
    stock = CHAINS

    def setUp(self):
        self.desk = Desk(self.stock)

    def check(self, row, answer):
        told = self.desk.say(row)
        self.assertIs(type(told), str)
        self.assertEqual(told, answer, row)

    def check_all(self, rows):
        for row, answer in rows:
            self.check(row, answer)

    def check_refused(self, kind, row, told=None):
        """The row is refused; told is the field of the refusal."""
        with self.assertRaises(kind) as caught:
            self.desk.say(row)
        self.assertIs(type(caught.exception), kind, row)
        if kind is NoText:
            self.assertEqual(caught.exception.at, 0)
        if kind is NoThing:
            self.assertEqual(caught.exception.name, told)

    def say_all(self, *rows):
        for row in rows:
            self.check(row, "ok")


class DeedsTest(DeskTest):
    def test_nothing_stands(self):
        self.check_all((
            ("rules", "none"), ("nets", "none"), ("joins", "joins"), ("complete 0", "complete 0"), ("least", "0"),
        ))
        self.check_refused(NoDeed, "undo")

    def test_nets(self):
        self.say_all("net main " + AB, "net b " + NOTHING, "net a - ; - ; m 3, n 1")
        self.check_all((
            ("nets", "a b main"), ("show net main", AB_SHOWN), ("show net b", NOTHING), ("show net a", "- ; - ; m 3, n 1"),
            ("net b a 0 0 ; - ; -", "ok"), ("show net b", "a 0 0 ; - ; -"), ("nets", "a b main"),
            ("drop net b", "ok"), ("nets", "a main"), ("undo", "ok"), ("nets", "a b main"),
            ("show net b", "a 0 0 ; - ; -"), ("undo", "ok"), ("show net b", NOTHING),
        ))

    def test_rules(self):
        self.say_all(f"rule turn {AB} => b x y, a y z ; -n x, +n z ; -", f"rule all {AB} => - ; -n x, +n x ; n 2")
        self.check_all((
            ("rules", "turn all"), ("show rule turn", f"{AB_SHOWN} => {BA_SHOWN}"),
            ("show rule all", f"{AB_SHOWN} => - ; -n 0, +n 0 ; n 2"), (f"rule turn {AB} => {AB}", "ok"),
            ("rules", "turn all"), ("show rule turn", f"{AB_SHOWN} => {AB_SHOWN}"), ("drop rule turn", "ok"),
            ("rules", "all"), (f"rule turn {AB} => {AB}", "ok"), ("rules", "all turn"), ("undo", "ok"), ("rules", "all"),
            ("undo", "ok"), ("rules", "turn all"), ("undo", "ok"),
            ("show rule turn", f"{AB_SHOWN} => {BA_SHOWN}"),
        ))

    def test_lay(self):
        self.say_all(rule_row("r", "ab", "c"), net_row("n", "abdab"))
        self.check_all((
            ("places r n", "0,1 3,4"), ("lay r n 3,4", "ok"), ("show net n", "a 0 2, b 2 3, d 3 4, c 4 1 ; -n 0, +n 1 ; -"),
            ("places r n", "0,1"), ("lay r n 0,1", "ok"), ("places r n", "none"), ("undo", "ok"), ("places r n", "0,1"),
            ("undo", "ok"), ("show net n", text("abdab")), ("undo", "ok"), ("nets", "none"), ("undo", "ok"),
            ("rules", "none"),
        ))
        self.check_refused(NoDeed, "undo")

    def test_one_name_for_a_rule_and_a_net(self):
        self.say_all(rule_row("net", "a", "b"), net_row("net", "a"), net_row("rule", "aa"))
        self.check_all((
            ("rules", "net"), ("nets", "net rule"), ("lay net net 0", "ok"), ("show net net", text("b")),
            ("show rule net", f"{text('a')} => {text('b')}"), ("show net rule", text("aa")), ("drop net net", "ok"),
            ("rules", "net"), ("nets", "rule"), ("drop rule net", "ok"), ("rules", "none"), ("nets", "rule"),
        ))

    def test_six_rules_and_twelve_nets(self):
        names = "abcdefghijklm"
        for name in names[:6]:
            self.say_all(rule_row(name, "a", "b"))
        for name in names[:12]:
            self.say_all(net_row(name, "a"))
        self.check_refused(TooMany, rule_row("g", "a", "b"))
        self.check_refused(TooMany, net_row("m", "a"))
        # One that stands is put anew.
        self.say_all(rule_row("f", "c", "d"), net_row("l", "b"))
        self.check_all((("rules", "a b c d e f"), ("nets", "a b c d e f g h i j k l"), ("show net l", text("b"))))
        self.say_all("drop rule b", "drop net b", rule_row("g", "a", "b"), net_row("m", "a"))
        self.check_all((("rules", "a c d e f g"), ("nets", "a c d e f g h i j k l m")))

    def test_two_desks(self):
        other = Desk(CHAINS)
        self.say_all(net_row("n", "a"))
        self.assertEqual(other.say("nets"), "none")


class AskedTest(DeskTest):
    def test_places(self):
        self.say_all(rule_row("r", "a", "b"), net_row("n", "abaca"), net_row("m", "bbb"))
        self.check_all((("places r n", "0 2 4"), ("places r m", "none")))
        self.say_all(net_row("n", "b" * 11 + "a"))
        self.check("places r n", "11")

    def test_rest(self):
        self.say_all(net_row("n", "aad"))
        self.check("rest n", text("aad"))
        self.say_all(rule_row("r", "a", "b"), rule_row("s", "b", "c"))
        # a is led on first: then the b that came last stands last.
        self.check_all((("rest n", "d 2 1, c 0 3, c 3 2 ; -n 0, +n 1 ; -"), ("show net n", text("aad"))))
        self.say_all("drop rule s")
        self.check("rest n", "d 2 1, b 0 3, b 3 2 ; -n 0, +n 1 ; -")

    def test_joins(self):
        self.say_all(rule_row("one", "ab", "c"))
        self.check("joins", "joins")
        self.say_all(rule_row("two", "ba", ""))
        self.check("joins", "parts one two")
        self.say_all(rule_row("three", "dd", "d"))
        self.check("joins", "parts one two")
        self.say_all("drop rule two")
        self.check("joins", "joins")
        # dd with itself: its two ends, ed and de, are unlike.
        self.say_all(rule_row("three", "dd", "e"))
        self.check("joins", "parts three three")
        self.say_all(rule_row("four", "e", "e"))
        self.check("joins", "open")

    def test_complete(self):
        self.say_all(rule_row("r", "a", "bd"), rule_row("s", "a", "b"), rule_row("t", "dd", ""))
        # By whatever weight d weighs something: bd makes b.
        for most in range(13):
            self.check(f"complete {most}", "more 0" if most == 0 else "complete 1")
        self.check("rules", "r s t")
        self.say_all("drop rule s")
        for most in range(13):
            self.check(f"complete {most}", "complete 0")
        self.say_all(rule_row("s", "e", "e"))
        self.check("complete 4", "open")

    def test_complete_is_stuck(self):
        # bc and cb weigh the same by whatever weight.
        self.say_all(rule_row("r", "a", "bc"), rule_row("s", "d", ""), rule_row("t", "a", "cb"))
        for most in (0, 1, 12):
            self.check(f"complete {most}", "stuck r t")

    def test_complete_is_stuck_at_a_rule_that_was_added(self):
        # bd makes b is added, and then dec makes ce, for ddce; bdce comes to bec and bce.
        self.say_all(rule_row("r", "a", "bd"), rule_row("s", "a", "b"), rule_row("t", "dd", ""), rule_row("u", "dce", "ec"))
        self.check_all((
            ("complete 0", "more 0"), ("complete 1", "more 1"), ("complete 2", "stuck u +1"), ("complete 12", "stuck u +1"),
        ))

    def told_of(self, pairs, most):
        """What complete tells of the rules by the weight told of them, as the desk words it; rule k is called zyx..[k]."""
        rules = [chain_rule(left, right) for left, right in pairs]
        word, weight = weighed(CHAINS, rules)
        if word == "none":
            return "open"
        grown = complete(CHAINS, rules, weight, most)
        if grown[0] != "stuck":
            return f"{grown[0]} {len(grown[1])}"
        calls = list("zyxw"[:len(rules)]) + [f"+{at + 1}" for at in range(len(grown[1]))]
        return f"stuck {calls[grown[3][0]]} {calls[grown[3][1]]}"

    def test_complete_as_complete_tells(self):
        chance = random.Random(71)
        # By the weight told of these two added ones come to two ends that weigh the same, or one with itself does.
        samples = [(("ca", ""), ("a", "b"), ("cbb", "c")), (("bca", "bb"), ("cab", "d"), ("cb", "d"))]
        for _ in range(60):
            samples.append([(
                "".join(chance.choice("abc") for _ in range(chance.randint(1, 3))),
                "".join(chance.choice("abcd") for _ in range(chance.randint(0, 2))),
            ) for _ in range(chance.randint(1, 4))])
        words = set()
        for pairs in samples:
            desk = Desk(CHAINS)
            for name, (left, right) in zip("zyxw", pairs):
                desk.say(rule_row(name, left, right))
            for most in (0, 4, 8):
                told = desk.say(f"complete {most}")
                self.assertEqual(told, self.told_of(pairs, most))
                words.add(told)
        self.assertTrue(any(word.startswith("stuck +") for word in words))
        self.assertTrue(words > {"open", "complete 0", "more 0"})

    def test_least(self):
        self.say_all(rule_row("r", "a", "b"), rule_row("s", "b", "c"), rule_row("t", "ab", "cc"))
        self.check("least", "2")
        self.say_all(rule_row("t", "d", "e"))
        self.check("least", "3")
        self.say_all(rule_row("u", "d", ""))
        self.check("least", "parts t u")
        self.say_all(rule_row("u", "d", "d"))
        self.check("least", "open")

    def test_alike(self):
        self.say_all("net n " + AB, "net m b y z, a x y ; -n x, +n z ; -", "net k b y z, a x y ; +n z, -n x ; -")
        self.check_all((
            ("alike n n", "alike"), ("alike n m", "alike"), ("alike m n", "alike"), ("alike n k", "unlike"),
            ("alike k m", "unlike"),
        ))
        # Rules tell nothing of this.
        self.say_all(rule_row("r", "a", "c"), net_row("m", "cb"))
        self.check_all((("alike n m", "unlike"), ("same n m", "one")))

    def test_same(self):
        self.say_all(net_row("n", "ad"), net_row("m", "bd"), net_row("k", "db"), "net l - ; - ; -")
        self.check_all((("same n m", "two"), ("same n n", "one")))
        self.say_all(rule_row("r", "a", "c"), rule_row("s", "b", "c"))
        self.check_all((
            ("same n m", "one"), ("same m n", "one"), ("same n k", "two"), ("same k l", "two"), ("same l l", "one"),
        ))
        self.say_all(rule_row("t", "a", "d"))
        self.check_all((("same n n", "parts r t"), ("same n m", "parts r t")))
        self.say_all(rule_row("u", "e", "e"))
        self.check("same n m", "open")

    def test_whatever_was_asked_ahead(self):
        self.say_all(rule_row("r", "a", "b"), net_row("n", "a"), net_row("m", "b"))
        for _ in range(2):
            self.check_all((("same n m", "one"), ("rest n", text("b")), ("least", "1"), ("joins", "joins")))
        self.say_all("drop rule r")
        self.check_all((("same n m", "two"), ("rest n", text("a")), ("least", "0"), ("alike n m", "unlike")))
        self.say_all("undo")
        self.check_all((("same n m", "one"), ("rest n", text("b"))))


class OtherStockTest(DeskTest):
    """Texts of nets are read and shown as 7 says."""

    stock = STOCK

    def test_texts(self):
        sample = "add 2 3 0, cut 3 ; +n 0, +n 1, -n 1, -n 2 ; -"
        self.say_all("net n add i one out, cut one ; +n out, +n w0, -n w0, -n i ; -")
        self.check("show net n", sample)
        self.say_all("net m " + sample, "net k - ; - ; m 999999999")
        self.check_all((("alike n m", "alike"), ("show net k", "- ; - ; m 999999999")))

    def test_texts_that_are_none(self):
        for told in (
            "-", "- ;", "- ; -", "- ; - ; - ;", "- ; - ; - ; -", "-;-;-", "neg a ; - ; -", "neg a b ; - ; -", "nag a a ; - ; -",
            "neg a a; - ; -", "neg a a , neg b b ; - ; -", "neg a a,neg b b ; - ; -", "neg a a ; n 0 ; -", "- ; +n a ; -",
            "- ; +n a, +n a ; -", "- ; - ; n 0", "- ; - ; n 01", "- ; - ; n 1000000000", "- ; - ; n 1, m 1",
            "- ; - ; n 1, n 1", "- ; - ; n -1", "- ; +n A, -n A ; -", "neg toolongname toolongname ; - ; -", "=>",
            "- ; - ; - =>", "- ; - ; - => - ; - ; -",
        ):
            self.check_refused(NoText, "net n " + told)
            self.check_refused(NoText, f"rule r {'cut a ; +n a ; -'} => {told}")
        for told in ("-", "neg a b ; - ; -", "- ; - ; n 0", "=>", "=> cut a ; +n a ; -"):
            self.check_refused(NoText, f"rule r {told} => cut a ; +n a ; -")
        self.check_all((("nets", "none"), ("rules", "none")))

    def test_rings_at_work(self):
        self.say_all("rule r neg a b ; -n a, +n b ; - => - ; -n a, +n a ; -", "net n neg a a, neg b c, neg c b ; - ; m 1")
        self.check_all((
            ("rest n", "- ; - ; m 1, n 2"), ("places r n", "0 1 2"), ("lay r n 1", "ok"),
            ("show net n", "neg 0 0, neg 1 1 ; - ; m 1"), ("lay r n 0", "ok"), ("show net n", "neg 0 0 ; - ; m 1, n 1"),
        ))


class RefusedTest(DeskTest):
    def setUp(self):
        super().setUp()
        self.say_all(rule_row("r", "a", "b"), rule_row("s", "b", "c"), net_row("n", "ad"), net_row("m", "bd"))
        self.answers = [self.desk.say(row) for row in ASKED]

    def check_refused(self, kind, row, told=None):
        """What is refused changes nothing."""
        super().check_refused(kind, row, told)
        self.assertEqual([self.desk.say(row) for row in ASKED], self.answers, row)

    def test_the_right_rows(self):
        for row in RIGHT:
            with self.subTest(row):
                self.setUp()
                self.assertIsInstance(self.desk.say(row), str)

    def test_blanks(self):
        for row in RIGHT:
            for other in (" " + row, row + " ", "  " + row, row + "  "):
                self.check_refused(NoAsk, other)
            words = row.split(" ")
            for at in range(1, len(words)):
                self.check_refused(NoAsk, " ".join(words[:at]) + "  " + " ".join(words[at:]))
        for row in ("", " ", "  "):
            self.check_refused(NoAsk, row)

    def test_a_word_left_out_and_one_more(self):
        for row in RIGHT:
            words = row.split(" ")
            if words[0] in ("rule", "net"):
                continue
            for at in range(len(words)):
                self.check_refused(NoAsk, " ".join(words[:at] + words[at + 1:]))
            for at in range(len(words) + 1):
                # One more word ahead of all makes another row of `rule ..` or `net ..` only where it is one of these.
                for more in ("n", "0", "x", "=>"):
                    self.check_refused(NoAsk, " ".join(words[:at] + [more] + words[at:]))

    def test_words_left_out_of_rules_and_nets(self):
        for row in (
            "net", "net n", "net N", f"net {NOTHING}", "rule", "rule r", f"rule r {AB}", f"rule r {AB} =>",
            f"rule r => {AB}", "rule r =>", "rule r => =>", f"rule {NOTHING} => {AB}", f"rule => {AB} => {AB}",
            f"rule r {AB} {AB}", f"rule r {AB} = > {AB}", f"rule r {AB} =>> {AB}", f"rule r {AB}=> {AB}",
            f"rule r {AB} =>{AB}", "=>", "rule =>",
        ):
            self.check_refused(NoAsk, row)
        # Here the kind of the first box is the name.
        self.check_refused(NoText, f"net {AB}")
        self.check_refused(NoText, f"rule {AB} => {AB}")

    def test_the_parting_of_a_rules_texts(self):
        self.check_refused(NoText, f"rule r => => {AB}")
        self.check_refused(NoText, "rule r => => =>")
        self.check_refused(NoText, f"rule r => {AB} => {AB}")
        self.check_refused(NoText, f"rule r {AB} => {AB} => {AB}")
        self.check_refused(NoText, f"rule r {AB} => => {AB}")
        self.check_refused(NoText, f"rule r {AB} => =>")
        self.check_refused(NoText, f"rule r x => {AB}")
        self.check_refused(NoText, f"rule r {AB} => x")
        self.check_refused(NoText, "rule r x => y")

    def test_names(self):
        for name in ("N", "n1", "ninesigns", "-", "+1", "0", "n,m", "_"):
            for row in (
                f"net {name} {NOTHING}", f"rule {name} {AB} => {AB}", f"drop net {name}", f"drop rule {name}",
                f"show net {name}", f"show rule {name}", f"lay {name} n 0", f"lay r {name} 0", f"places {name} n",
                f"places r {name}", f"rest {name}", f"alike {name} n", f"alike n {name}", f"same {name} n", f"same n {name}",
                f"net {name} x", f"rule {name} x => y",
            ):
                self.check_refused(NoAsk, row)

    def test_other_words(self):
        for row in (
            "Rules", "rule", "nets nets", "show", "show nets n", "drop", "drop n", "drop nets n", "show places n", "place r n",
            "undo undo", "undo 1", "join", "joins r", "least 1", "complete", "complete x", "rests n", "same n", "alike",
            "rules ;", "help", "quit", "UNDO", "lay", "lay r n", "rules\t", "=> rules",
        ):
            self.check_refused(NoAsk, row)

    def test_places(self):
        for place in (
            "00", "01", "0,01", "-1", "+1", "1.0", "1,", ",1", ",", "1,,2", "a", "0x1", "1234567890", "0,1234567890", "0;1",
            "(0,)", "0,-1", "=>", "0a",
        ):
            self.check_refused(NoAsk, "lay r n " + place)
            # Ahead of what doesn't stand.
            self.check_refused(NoAsk, "lay x y " + place)
        self.check_refused(NoAsk, "lay r n 0, 1")
        self.check_refused(NoAsk, "lay r n 0 1")
        for place in ("1", "2", "0,1", "0,0", "123456789", "10", "0,1,2,3,4,5,6,7,8,9"):
            self.check_refused(NoPlace, "lay r n " + place)
        self.check_refused(NoPlace, "lay s n 0")

    def test_most(self):
        for most in ("13", "99", "100", "00", "01", "012", "-1", "+1", "a", "1a", "1,2", "1000000000", "=>"):
            self.check_refused(NoAsk, "complete " + most)
        self.check_refused(NoAsk, "complete 1 2")

    def test_what_does_not_stand(self):
        for row, name in (
            ("drop rule x", "x"), ("drop rule n", "n"), ("drop net x", "x"), ("drop net r", "r"), ("show rule x", "x"),
            ("show rule n", "n"), ("show net x", "x"), ("show net r", "r"), ("lay x y 9", "x"), ("lay n r 9", "n"),
            ("lay r y 9", "y"), ("lay r r 0", "r"), ("places x y", "x"), ("places r y", "y"), ("places n n", "n"),
            ("rest x", "x"), ("rest r", "r"), ("alike x y", "x"), ("alike n y", "y"), ("alike r n", "r"), ("same x y", "x"),
            ("same n y", "y"), ("same s n", "s"),
        ):
            self.check_refused(NoThing, row, name)

    def test_what_makes_no_rule(self):
        for left, right in (
            (NOTHING, NOTHING), (AB, NOTHING), (NOTHING, AB), (AB, "a x y ; +n y, -n x ; -"), (text("aaaa"), text("a")),
            ("a x x, b y y ; - ; -", NOTHING), ("a x y ; -n x, +n y ; n 1", text("")), (text(""), text("")),
        ):
            self.check_refused(NoRule, f"rule r {left} => {right}")
            self.check_refused(NoRule, f"rule new {left} => {right}")

    def test_no_deed(self):
        for _ in range(4):
            self.desk.say("undo")
        self.answers = []
        with self.assertRaises(NoDeed):
            self.desk.say("undo")
        self.assertEqual((self.desk.say("rules"), self.desk.say("nets")), ("none", "none"))

    def test_a_refused_row_is_no_deed(self):
        for row in ("net k x", "drop net x", "lay r n 9", f"rule k {NOTHING} => {NOTHING}", "show net x", "nonsense"):
            with self.assertRaises(ValueError):
                self.desk.say(row)
        self.say_all("undo")
        self.check_all((("nets", "n"), ("rules", "r s")))


class TooManyTest(DeskTest):
    def test_what_goes_first(self):
        for name in "abcdef":
            self.say_all(rule_row(name, "a", "b"))
        for name in "abcdefghijkl":
            self.say_all(net_row(name, "a"))
        self.check_refused(NoAsk, "rule g x  => y")
        self.check_refused(NoText, f"rule g x => {text('a')}")
        self.check_refused(NoText, f"rule g {text('')} => x")
        self.check_refused(NoRule, rule_row("g", "", ""))
        self.check_refused(TooMany, rule_row("g", "a", "b"))
        self.check_refused(NoText, "net m x")
        self.check_refused(TooMany, net_row("m", "a"))

    def test_runs(self):
        self.say_all(net_row("n", "e" * 65), net_row("m", "e"))
        for row in ("rest n", "same n m", "same m n", "same n n"):
            self.check_refused(TooMany, row)
        # What is no run is told.
        self.check_all((
            ("rest m", text("e")), ("alike n m", "unlike"), ("alike n n", "alike"), ("show net n", text("e" * 65)),
            ("joins", "joins"), ("least", "0"),
        ))
        self.check_refused(NoThing, "same n x", "x")

    def test_runs_of_rules(self):
        self.say_all(rule_row("r", "a", "b" * 65), net_row("n", "e"))
        self.check_all((("joins", "joins"), ("complete 3", "complete 0"), ("same n n", "one")))
        self.check_refused(TooMany, "least")
        self.say_all(rule_row("s", "a", "b" * 65))
        for row in ("joins", "complete 3", "least", "same n n"):
            self.check_refused(TooMany, row)
        self.check_refused(NoThing, "same n x", "x")
        # Open goes ahead of it.
        self.say_all(rule_row("t", "e", "e"))
        self.check_all((("joins", "open"), ("complete 3", "open"), ("least", "open"), ("same n n", "open")))

    def test_long_runs(self):
        self.say_all(rule_row("r", "a", "b"), rule_row("s", "b", "c"), net_row("n", "a" * 50), net_row("m", "a" * 51))
        self.assertEqual(read_net(CHAINS, self.desk.say("rest n"))[1], ("c",) * 50)
        self.check_refused(TooMany, "rest m")
        self.check_all((("same n n", "one"), ("least", "2")))
        self.check_refused(TooMany, "same n m")


if __name__ == "__main__":
    unittest.main()
