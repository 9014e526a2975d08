"""The names of the interface: each is defined in its own file, with its own parameters."""

import ast
import importlib
import inspect
import unittest

FUNCTIONS = {
    "basics": {"is_integer": "value", "is_count": "value"},
    "ratios": {"is_number": "value"},
    "steps": {"steps": "size rows", "rank": "size rows", "zeros": "size rows"},
    "rooms": {"is_room": "size value", "joined": "size room other", "shared": "size room other",
              "is_held": "size room row", "behind": "size room rows", "ahead": "size room rows", "beside": "size room"},
    "lots": {"is_lot": "pairs value", "lot_rank": "pairs lot", "is_free": "pairs lot", "free_lots": "pairs many",
             "greatest": "pairs", "greatest_lots": "pairs", "handed": "pairs lot other"},
    "partings": {"is_parting": "pairs value", "told_parting": "pairs parting", "partings": "many",
                 "is_finer": "pairs parting other"},
    "bounds": {"part_ranks": "pairs room parting", "worth": "pairs room parting", "least_worth": "pairs room",
               "best_parting": "pairs room", "is_tight": "pairs room parting"},
    "common": {"common_room": "pairs", "is_common": "pairs row", "behind_row": "pairs row",
               "behind_room": "pairs room"},
    "engine": {"core": "pairs", "bound": "pairs", "is_bound": "pairs value", "first_lot": "pairs", "papers": "pairs",
               "is_papers": "pairs value"},
    "which": {"in_all": "pairs", "in_some": "pairs", "in_none": "pairs", "falls": "pairs place",
              "without": "pairs place", "put_in": "pairs pair"},
    "shown": {"all_paper": "pairs place", "spared_paper": "pairs place", "some_paper": "pairs place",
              "none_paper": "pairs place", "is_all_paper": "pairs place value", "is_spared_paper": "pairs place value",
              "is_some_paper": "pairs place value", "is_none_paper": "pairs place value"},
    "turned": {"is_turned": "value", "turned_sum": "pairs numbers", "rank_at": "pairs numbers",
               "trial_numbers": "pairs", "is_trial": "pairs value"},
    "pfaffians": {"pfaffian": "table", "at_places": "table places", "lot_share": "pairs lot places",
                  "shares": "pairs places"},
    "webs": {"web_pairs": "web", "is_matching": "web value", "matching_number": "web", "matching": "web",
             "pieces": "web places", "barrier_worth": "web places", "barrier": "web", "is_barrier": "web value",
             "left_places": "web"},
    "houses": {"house_pairs": "first second", "both_free": "first second", "cover_worth": "first second places",
               "cover": "first second", "is_cover": "first second value"},
    "threes": {"three_pairs": "size threes", "has_ring": "size threes", "ringless": "size threes",
               "ringless_number": "size threes", "spans": "size threes"},
    "frames": {"bar_table": "frame", "frame_pairs": "frame"},
    "pins": {"moves": "frame pins", "stands": "frame pins", "is_move": "frame pins value", "fewest_pins": "frame",
             "pins": "frame", "is_pins": "frame value"},
    "texts": {"sorts": "", "is_of_sort": "sort value", "written": "sort value"},
    "readers": {"read": "text"},
    "claims": {"words": "", "is_claim": "value", "is_true": "claim", "contrary": "claim", "paper_of": "claim",
               "is_paper_of": "claim value"},
    "commands": {"is_name": "value", "is_command": "value", "is_deed": "value"},
    "desk": {"tried": "desk action"},
}

METHODS = {
    "ratios": {"Ratio": {
        "__init__": "self top bottom", "over": "self other", "unsigned": "self", "is_below": "self other",
        "is_at_most": "self other", "total": "cls numbers", "__add__": "self other", "__radd__": "self other",
        "__sub__": "self other", "__rsub__": "self other", "__mul__": "self other", "__rmul__": "self other",
        "__neg__": "self", "__eq__": "self other", "__str__": "self", "__repr__": "self", "top": "self",
        "bottom": "self", "sign": "self", "is_whole": "self"}},
    "pairs": {"Pairs": {
        "__init__": "self size rows", "size": "self", "many": "self", "pair": "self place", "told": "self",
        "lot_rows": "self lot", "__eq__": "self other", "__repr__": "self"}},
    "webs": {"Web": {
        "__init__": "self size ties", "size": "self", "many": "self", "ties": "self", "__eq__": "self other",
        "__repr__": "self"}},
    "frames": {"Frame": {
        "__init__": "self points bars", "many": "self", "points": "self", "bars": "self", "__eq__": "self other",
        "__repr__": "self"}},
    "desk": {
        "Desk": {
            "__init__": "self", "names": "self", "labels": "self", "__len__": "self", "__getitem__": "self name",
            "__contains__": "self value", "claim_of": "self label", "do": "self command", "__call__": "self command",
            "do_all": "self *commands", "attempt": "self *commands", "attach": "self label paper", "fits": "self label",
            "lines": "self", "copy": "self", "again": "cls lines"},
        "Trial": {"__init__": "self desk", "__enter__": "self", "__exit__": "self kind value trace"}},
}


def parameters(node):
    rest = ["*" + node.args.vararg.arg] if node.args.vararg else []
    return " ".join([part.arg for part in node.args.args] + rest)


def parts_of(body, kind):
    return {node.name: node for node in body if isinstance(node, kind)}


def body_of(file):
    return ast.parse(inspect.getsource(importlib.import_module("pairsfree." + file))).body


class InterfaceTest(unittest.TestCase):

    def test_functions(self):
        for file, functions in FUNCTIONS.items():
            found = parts_of(body_of(file), ast.FunctionDef)
            for name, told in functions.items():
                with self.subTest(file=file, name=name):
                    self.assertEqual(parameters(found[name]), told)

    def test_methods(self):
        for file, classes in METHODS.items():
            found = parts_of(body_of(file), ast.ClassDef)
            for name, methods in classes.items():
                own = parts_of(found[name].body, ast.FunctionDef)
                for method, told in methods.items():
                    with self.subTest(file=file, name=name, method=method):
                        self.assertEqual(parameters(own[method]), told)


if __name__ == "__main__":
    unittest.main()
