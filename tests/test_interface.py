"""The names and arguments that the document's interface lists for the modules there are."""

import importlib
import inspect
import unittest

LISTED = {
    "stock": ("is_name(thing)", "is_spec(thing)", "is_stock(thing)", "mate_of(spec)", "ports_of(stock, kind)"),
    "nets": (
        "is_net(stock, thing)", "ends_of(stock, net)", "joined_to(net, end)",
        "net_of(stock, outers, boxes, pairs, rings)",
    ),
    "texts": ("show_net(net)", "read_net(stock, text)", "show_kind(kind, ports)", "read_stock(texts)"),
    "parts": ("together(net)", "part_at(net, box)", "lies_at(net, part, box)"),
    "alike": ("is_naming(one, other, naming)", "naming_of(one, other)"),
    "unlike": ("unlike_of(one, other)", "shows_unlike(stock, one, other, paper)"),
    "rules": ("is_pattern(net)", "is_rule(stock, thing)", "rule_of(left, right)"),
    "places": ("place_at(net, left, box)", "places_of(net, left)", "is_place(net, left, place)"),
    "laying": ("laid(net, rule, place)", "stay_behind(net, place)"),
    "rows": ("walked(rules, net, rows)", "both_ways(rules, net, one, other)"),
    "roads": ("road_end(stock, rules, net, road)",),
    "weights": (
        "is_weight(stock, thing)", "weighs(stock, weight, net)", "falls(stock, weight, rule)", "weighed(stock, rules)",
        "shows_weighed(stock, rules, thing)",
    ),
    "overlaps": ("sharings(one, other)", "overlaps(rules)", "is_overlap(rules, thing)", "shared(place, other)"),
    "glued": ("glued(stock, rules, overlap)", "outcomes(stock, rules, overlap)"),
    "ends": ("at_rest(rules, net)", "run(rules, net)"),
    "joins": ("joins(stock, rules)",),
}


class InterfaceTest(unittest.TestCase):
    def test_names_and_arguments(self):
        for name, listed in LISTED.items():
            module = importlib.import_module("weave." + name)
            for told in listed:
                word = told.partition("(")[0]
                self.assertEqual(word + str(inspect.signature(getattr(module, word))), told)


if __name__ == "__main__":
    unittest.main()
