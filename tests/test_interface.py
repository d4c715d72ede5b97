"""The names and arguments that the document's interface lists for the modules there are."""

import importlib
import inspect
import unittest

LISTED = {
    "stock": ("is_name(thing)", "is_spec(thing)", "is_stock(thing)", "mate_of(spec)", "ports_of(stock, kind)"),
    "nets": (
        "is_net(stock, thing)", "ends_of(stock, net)", "joined_to(net, end)",
        "net_of(stock, outers, boxes, pairs, rings)",
    ),
    "texts": ("show_net(net)", "read_net(stock, text)", "show_kind(kind, ports)", "read_stock(texts)"),
    "parts": ("together(net)", "part_at(net, box)", "lies_at(net, part, box)"),
    "alike": ("is_naming(one, other, naming)", "naming_of(one, other)"),
    "unlike": ("unlike_of(one, other)", "shows_unlike(stock, one, other, paper)"),
    "rules": ("is_pattern(net)", "is_rule(stock, thing)", "rule_of(left, right)"),
    "places": ("place_at(net, left, box)", "places_of(net, left)", "is_place(net, left, place)"),
    "laying": ("laid(net, rule, place)", "stay_behind(net, place)"),
    "rows": ("walked(rules, net, rows)", "both_ways(rules, net, one, other)"),
    "roads": ("road_end(stock, rules, net, road)",),
    "weights": (
        "is_weight(stock, thing)", "weighs(stock, weight, net)", "falls(stock, weight, rule)", "weighed(stock, rules)",
        "shows_weighed(stock, rules, thing)",
    ),
    "overlaps": ("sharings(one, other)", "overlaps(rules)", "is_overlap(rules, thing)", "shared(place, other)"),
    "glued": ("glued(stock, rules, overlap)", "outcomes(stock, rules, overlap)"),
    "ends": ("at_rest(rules, net)", "run(rules, net)"),
    "joins": ("joins(stock, rules)",),
    "checker": ("lets_by(stock, rules, thing)",),
    "complete": ("complete(stock, rules, weight, most)",),
    "grown": ("lets_grown(stock, rules, weight, most, thing)",),
    "least": ("made_least(stock, rules)", "is_least(rules)", "shows_least(stock, rules, thing)"),
    "counts": ("keeps(stock, count, rule)", "base_of(stock, rules)", "parted(stock, rules, one, other)"),
    "compared": ("compared(stock, rules, one, other)", "shows_compared(stock, rules, one, other, thing)"),
    "keeper": ("Keeper(stock)",),
    "desk": ("Desk(stock)",),
}

METHODS = {
    ("keeper", "Keeper"): (
        "put_rule(name, left, right)", "drop_rule(name)", "put_net(name, net)", "drop_net(name)", "lay(rule, net, place)",
        "undo()", "rules()", "nets()", "places(rule, net)", "rest(net)", "joined()",
    ),
    ("desk", "Desk"): ("say(row)",),
}


class InterfaceTest(unittest.TestCase):
    def test_names_and_arguments(self):
        for name, listed in LISTED.items():
            module = importlib.import_module("weave." + name)
            for told in listed:
                word = told.partition("(")[0]
                self.assertEqual(word + str(inspect.signature(getattr(module, word))), told)

    def test_methods_stand_in_the_class_itself(self):
        for (name, kind), listed in METHODS.items():
            found = getattr(importlib.import_module("weave." + name), kind)
            for told in listed:
                word = told.partition("(")[0]
                self.assertIn(word, vars(found))
                shown = str(inspect.signature(vars(found)[word]))
                self.assertEqual(word + shown.replace("(self, ", "(").replace("(self)", "()"), told)

    def test_there_is_a_module_for_the_wording(self):
        importlib.import_module("weave.wording")


if __name__ == "__main__":
    unittest.main()
