"""Tests of the interface: what is defined where, the names of arguments, and lists that may be tuples."""

import importlib
import inspect
import unittest

from endlots.bench import Bench
from endlots.errors import InvalidSpace
from endlots.ratios import Ratio
from endlots.spaces import Space

FUNCTIONS = {
    "endlots.ratios": {
        "read_number": "line", "as_ratio": "value", "total": "numbers", "greatest": "numbers", "smallest": "numbers",
        "is_number": "value",
    },
    "endlots.spaces": {"read_space": "line"},
    "endlots.lots": {
        "is_lot": "space value", "as_lot": "space weights", "sure": "space outcome", "share": "lot outcome",
        "mean": "lot payoff", "support": "lot", "blend": "lots weights",
    },
    "endlots.hulls": {
        "corners": "lots", "shares_in": "lots lot", "is_shares_in": "lots lot value", "is_outside": "lots lot value",
        "distance": "lots lot", "is_distance": "lots lot value",
    },
    "endlots.texts": {
        "is_text": "space value", "is_surrounding": "space value", "is_straight": "surrounding", "parts": "text",
        "part_at": "text path", "size": "text", "depth": "text", "put_at": "space text path part",
        "fill": "space surrounding text",
    },
    "endlots.lines": {"line_of": "text", "read_text": "space line", "read_surrounding": "space line"},
    "endlots.courses": {"followed": "space text store sides draws", "behind": "space text store chooser steps"},
    "endlots.rows": {
        "first": "space text store", "moves": "space text row", "met": "space text store", "stays": "space text store",
        "turns": "space text store", "is_stays": "space text store value",
    },
    "endlots.picks": {
        "eithers": "space text store", "picks": "space text store", "is_pick": "space text store value",
        "lot_by": "space text store pick", "passes_by": "space text store pick", "is_dice": "space text store value",
        "lot_by_dice": "space text store dice", "passes_by_dice": "space text store dice",
        "is_blend": "space text store value", "lot_of_blend": "space text store blend",
        "passes_of_blend": "space text store blend",
    },
    "endlots.forward": {
        "ends": "space text store", "brought": "space text store lot", "is_brought": "space text store lot value",
        "is_against": "space text store lot value",
    },
    "endlots.backward": {
        "best": "space text store payoff", "least": "space text store payoff", "table": "space text store payoff",
        "best_sides": "space text store payoff", "is_table": "space text store payoff value",
        "is_best": "space text store payoff value",
    },
    "endlots.standing": {
        "closed_lists": "space text store", "is_closed": "space text store value", "stands_for": "space text other",
        "alike": "space text other", "paper_for": "space text other", "is_paper_for": "space text other value",
    },
    "endlots.times": {
        "always_ends": "space text store", "falling": "space text store", "worst": "space text store",
        "never_most": "space text store", "one_lot": "space text store", "is_falling": "space text store value",
        "is_may_stay": "space text store value", "is_one_lot": "space text store value",
        "is_two_lots": "space text store value",
    },
    "endlots.limits": {
        "free_stays": "space text store limits", "kept": "space text store limits",
        "is_kept": "space text store limits value", "is_fees": "space text store limits value",
    },
    "endlots.passing": {
        "passed": "space text store lot", "struck_rows": "space text store row", "through": "space text store lot",
        "passing_paper": "space text store lot row", "is_passing_paper": "space text store lot row value",
    },
    "endlots.meeting": {
        "meeting": "space pairs", "is_meeting": "space pairs value", "is_no_common": "space pairs value",
        "could_be": "space text lots", "is_could_be": "space text lots value",
    },
    "endlots.nearly": {
        "lead": "space text other", "lead_paper": "space text other", "is_lead": "space text other value",
        "runs_in": "space surrounding text store", "is_runs": "space surrounding text store value",
        "bound_in": "space surrounding text other store",
    },
    "endlots.surely": {
        "supports": "space text store", "surely": "space text store stores", "just": "space text store stores",
        "is_surely": "space text store stores value", "is_just": "space text store stores value",
        "surely_straight": "space text other", "surely_all": "space text other", "going_round": "space text other",
    },
    "endlots.normal": {
        "normal": "space text", "needless": "space text", "struck": "space text", "forward_steps": "space text",
    },
    "endlots.bench": {"read_bench": "space lines"},
}

CLASSES = {
    ("endlots.ratios", "Ratio"): {
        "__init__": "top bottom", "over": "number", "below": "number", "__add__": "other", "__radd__": "other",
        "__sub__": "other", "__rsub__": "other", "__mul__": "other", "__rmul__": "other", "__eq__": "other",
        "__neg__": "", "__str__": "",
    },
    ("endlots.spaces", "Space"): {
        "__init__": "sizes", "at": "store", "store": "values", "line": "", "__len__": "", "__eq__": "other",
    },
    ("endlots.bench", "Bench"): {
        "__init__": "space", "__len__": "", "__contains__": "name", "__eq__": "other", "names": "", "take": "name",
        "put": "name text", "drop": "name", "rename": "name new", "edit": "name path part", "refine": "name path part",
        "claim": "name other paper", "facts": "", "chain": "name other", "undo": "", "redo": "", "ends": "name store",
        "best": "name store payoff", "always_ends": "name store", "lead": "name other", "lines": "",
    },
}


class TestInterface(unittest.TestCase):
    def test_functions(self):
        for module, functions in FUNCTIONS.items():
            for name, arguments in functions.items():
                function = getattr(importlib.import_module(module), name)
                self.assertTrue(inspect.isfunction(function))
                self.assertEqual(function.__module__, module, name)
                parameters = inspect.signature(function).parameters
                self.assertEqual(list(parameters), arguments.split(), name)
                for parameter in parameters.values():
                    self.assertIs(parameter.kind, inspect.Parameter.POSITIONAL_OR_KEYWORD)
                    self.assertIs(parameter.default, inspect.Parameter.empty)

    def test_classes(self):
        for (module, name), methods in CLASSES.items():
            told = getattr(importlib.import_module(module), name)
            self.assertEqual(told.__module__, module)
            for method, arguments in methods.items():
                self.assertIn(method, vars(told), f"{name}.{method}")
                parameters = inspect.signature(vars(told)[method]).parameters
                self.assertEqual(list(parameters), ["self"] + arguments.split(), f"{name}.{method}")
        self.assertEqual(inspect.signature(Ratio).parameters["bottom"].default, 1)
        paper = inspect.signature(Bench.claim).parameters["paper"]
        self.assertEqual([paper.default, paper.kind], [None, inspect.Parameter.KEYWORD_ONLY])

    def test_attributes_are_set(self):
        self.assertTrue({"top", "bottom"} <= set(vars(Ratio(1, 2))))
        self.assertTrue({"sizes", "never"} <= set(vars(Space([2]))))
        self.assertIn("space", vars(Bench(Space([2]))))

    def test_the_space_comes_first_in_each_function_that_has_one(self):
        for module, functions in FUNCTIONS.items():
            for name, arguments in functions.items():
                if arguments.startswith("space "):
                    function = getattr(importlib.import_module(module), name)
                    given = [2]
                    with self.assertRaises(InvalidSpace) as caught:
                        function(**{argument: given for argument in arguments.split()})
                    self.assertIs(caught.exception.given, given)

    def test_space_stays(self):
        space = Space([2, 2])
        kept = {name: value for name, value in vars(space).items()}
        from endlots.lots import as_lot, sure
        from endlots.texts import is_text
        [as_lot(space, [1] * 5), sure(space, 1), is_text(space, ("skip",)), space.at(0), space.store([0, 0])]
        from endlots.picks import passes_by
        passes_by(space, ("while", [0], ("draw", 1, (0, 1), (1, 1))), 0, ())
        self.assertEqual(vars(space), kept)


if __name__ == "__main__":
    unittest.main()
