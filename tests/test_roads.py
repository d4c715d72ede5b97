"""Roads of steps, forth and back [17]."""

import copy
import random
import unittest

from tests.samples import ANYTHING, EMPTY, STOCK, bent, net, rule, shuffled, some_full_net, some_rules
from weave.errors import NoRoad
from weave.laying import laid
from weave.places import places_of
from weave.roads import road_end


RULES = [
    rule("neg a b, neg b c ; -n a, +n c ; -", "- ; -n a, +n a ; -"),
    rule("neg a b ; -n a, +n b ; -", "one a, cut b ; -n a, +n b ; -"),
]
PAIR = net("neg a b, neg b c ; -n a, +n c ; -")
BARE = net("- ; -n a, +n a ; -")

# Row (0, (0, 1)) makes of START the net MADE: boxes add, dup and cut stay.
START = net("neg a b, neg b c, add c d e, dup e f g, cut d ; -n a, +n f, +n g ; -")
MADE = net("add a d e, dup e f g, cut d ; -n a, +n f, +n g ; -")
# Each box of MADE is called as CALLS has it there; told the other way about this is another naming.
CALLS = (1, 2, 0)
BACK_CALLS = (2, 0, 1)
TOLD = net("cut d, add a d e, dup e f g ; -n a, +n f, +n g ; -")


class RoadEndTest(unittest.TestCase):
    def check_refused(self, start, road, at):
        with self.assertRaises(NoRoad) as caught:
            road_end(STOCK, RULES, start, road)
        self.assertEqual(caught.exception.at, at)

    def test_the_samples(self):
        self.assertEqual(laid(START, RULES[0], (0, 1)), MADE)
        self.assertEqual(shuffled(MADE, CALLS), TOLD)
        self.assertEqual(shuffled(TOLD, BACK_CALLS), MADE)

    def test_no_steps(self):
        for told in (PAIR, EMPTY):
            self.assertEqual(road_end(STOCK, RULES, told, []), told)
            self.assertEqual(road_end(STOCK, [], told, []), told)

    def test_forth(self):
        self.assertEqual(road_end(STOCK, RULES, PAIR, [("forth", 0, (0, 1), BARE, ())]), BARE)
        self.assertEqual(road_end(STOCK, RULES, START, [("forth", 0, (0, 1), MADE, (0, 1, 2))]), MADE)
        self.assertEqual(road_end(STOCK, RULES, START, [("forth", 0, (0, 1), TOLD, CALLS)]), TOLD)

    def test_back(self):
        self.assertEqual(road_end(STOCK, RULES, BARE, [("back", 0, (0, 1), PAIR, ())]), PAIR)
        turned = net("neg b c, neg a b ; -n a, +n c ; -")
        self.assertEqual(road_end(STOCK, RULES, BARE, [("back", 0, (1, 0), turned, ())]), turned)
        self.assertEqual(road_end(STOCK, RULES, MADE, [("back", 0, (0, 1), START, (0, 1, 2))]), START)
        self.assertEqual(road_end(STOCK, RULES, TOLD, [("back", 0, (0, 1), START, CALLS)]), START)

    def test_the_naming_is_of_what_was_made(self):
        for naming in (BACK_CALLS, (0, 1, 2), (1, 0, 2), (1, 2), (1, 2, 0, 3), [1, 2, 0], (True, 2, 0), None):
            self.check_refused(START, [("forth", 0, (0, 1), TOLD, naming)], 0)
            self.check_refused(TOLD, [("back", 0, (0, 1), START, naming)], 0)

    def test_steps_one_behind_the_other(self):
        broken = net("one a, cut c ; -n a, +n c ; -")
        half = net("neg b c, one a, cut b ; -n a, +n c ; -")
        road = [
            ("forth", 0, (0, 1), BARE, ()), ("back", 0, (0, 1), PAIR, ()), ("forth", 1, (0,), half, (0, 1, 2)),
            ("back", 1, (0,), PAIR, (0, 1, 2)), ("forth", 0, (0, 1), BARE, ()),
        ]
        ends = [BARE, PAIR, half, PAIR, BARE]
        for many in range(1, 6):
            self.assertEqual(road_end(STOCK, RULES, PAIR, road[:many]), ends[many - 1])
        for at in range(5):
            self.check_refused(PAIR, road[:at] + [("forth", 1, (0,), broken, (0, 1))] + road[at:], at)
            self.check_refused(PAIR, road[:at] + [None] + [None], at)
        self.check_refused(PAIR, road[1:], 0)
        self.check_refused(BARE, road, 0)
        self.check_refused(PAIR, road + [road[0]], 5)

    def test_ways_are_not_exchanged(self):
        self.check_refused(PAIR, [("back", 0, (0, 1), BARE, ())], 0)
        self.check_refused(BARE, [("forth", 0, (0, 1), PAIR, ())], 0)
        for way in ("", "Forth", "forth ", "to", None, 0, True, ("forth",), ["back"]):
            self.check_refused(PAIR, [(way, 0, (0, 1), BARE, ())], 0)
            self.check_refused(BARE, [(way, 0, (0, 1), PAIR, ())], 0)

    def test_no_rule_or_no_place(self):
        for number, place in ((1, (0, 1)), (2, (0, 1)), (-2, (0, 1)), (-1, (0,)), (False, (0, 1)), (None, (0, 1)),
                              (0, (1, 0)), (0, (0,)), (0, ()), (0, [0, 1]), (0, (0, True)), (0, (0, -1)), (0, None)):
            self.check_refused(PAIR, [("forth", number, place, BARE, ())], 0)
            self.check_refused(BARE, [("back", number, place, PAIR, ())], 0)

    def test_other_nets(self):
        for told in (PAIR, EMPTY, net("- ; +n a, -n a ; -"), net("- ; -n a, +n a ; n 1"), net("one a, cut b ; -n a, +n b ; -")):
            self.check_refused(PAIR, [("forth", 0, (0, 1), told, ())], 0)
            self.check_refused(told, [("back", 0, (0, 1), PAIR, ())], 0)

    def test_the_told_net_is_one_of_the_stock(self):
        small = tuple(entry for entry in STOCK if entry[0] != "one")
        step = ("back", 0, (0, 2), net("neg a b, one x, neg b c, cut x ; -n a, +n c ; -"), (0, 1))
        start = net("one x, cut x ; -n a, +n a ; -")
        self.assertEqual(road_end(STOCK, RULES, start, [step]), step[3])
        with self.assertRaises(NoRoad):
            road_end(small, RULES, start, [step])
        twice = (PAIR[0], PAIR[1], PAIR[2] + PAIR[2][-1:], PAIR[3])
        self.check_refused(BARE, [("back", 0, (0, 1), twice, ())], 0)

    def test_steps_of_anything(self):
        right = ("forth", 0, (0, 1), TOLD, CALLS)
        for thing in list(bent(right)) + list(ANYTHING) + [right[:4], right + (0,), (right,), list(right)]:
            self.check_refused(START, [thing], 0)
        right = ("back", 0, (0, 1), START, CALLS)
        for thing in bent(right):
            self.check_refused(TOLD, [thing], 0)
        for thing in ANYTHING:
            self.check_refused(TOLD, [right, thing], 1)
            if thing != (0, 1):
                self.check_refused(TOLD, [("back", 0, thing, START, CALLS)], 0)

    def test_nothing_is_changed(self):
        road = [("forth", 0, (0, 1), TOLD, CALLS), ("back", 0, (0, 1), START, CALLS)]
        told, rules = copy.deepcopy(road), copy.deepcopy(RULES)
        self.assertEqual(road_end(STOCK, rules, START, road), START)
        self.assertEqual((road, rules), (told, RULES))

    def test_roads_there_and_back_again(self):
        chance = random.Random(25)
        for _ in range(100):
            start = some_full_net(chance, 6)
            rules, _ = some_rules(chance, start, 2)
            now, road, back = start, [], []
            for _ in range(3):
                rows = [(at, place) for at in range(2) for place in places_of(now, rules[at][0])]
                if rows:
                    number, place = chance.choice(rows)
                    made = laid(now, rules[number], place)
                    calls = tuple(chance.sample(range(len(made[1])), len(made[1])))
                    told = shuffled(made, calls)
                    road.append(("forth", number, place, told, calls))
                    back.insert(0, ("back", number, place, now, calls))
                    now = told
            self.assertEqual(road_end(STOCK, rules, start, road), now)
            self.assertEqual(road_end(STOCK, rules, now, back), start)
            self.assertEqual(road_end(STOCK, rules, start, road + back), start)


if __name__ == "__main__":
    unittest.main()
