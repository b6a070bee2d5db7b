"""What the tests share: any value as the document tells it, and how an error is asked for."""

import unittest

from endlots.bench import Bench
from endlots.errors import ByZero, EndError, InvalidLine, TooMany
from endlots.ratios import Ratio
from endlots.spaces import Space

ALL_SIZES = [
    (2,), (3,), (4,), (5,), (6,), (7,), (8,), (2, 2), (2, 3), (3, 2), (2, 4), (4, 2), (2, 2, 2),
]


class ErrorCase(unittest.TestCase):
    """Tests that ask for errors with the very value that was passed."""

    def assert_raises_with(self, error, value, call, *arguments):
        with self.assertRaises(error) as caught:
            call(*arguments)
        self.assertIs(caught.exception.given, value)


def nested(kind, deep):
    """A value nested so deep in lists, tuples or dicts."""
    value = 1
    for _ in range(deep):
        value = {"k": value} if kind is dict else kind([value])
    return value


def shared_thens(deep):
    """A tuple with 2 ** deep parts in few places."""
    part = ("skip",)
    for _ in range(deep):
        part = ("then", part, part)
    return part


def any_values():
    """Values of every kind that [9] names, none of them a list, a lot or a text that is wanted anywhere."""
    return [
        None, True, False, 0, 1, -1, 2, 9, 10 ** 60, -(10 ** 60), "", "a", "0", "2/4", "skip ", "x" * 4000, "9" * 4000,
        "(" * 60, "\n", "\u0663", Ratio(1, 2), Ratio(1), Ratio(0), Space([2]), Space([2, 2, 2]), EndError(), ByZero(),
        Bench(Space([2])),
        InvalidLine("a"), TooMany(count=3),
        [], (), {}, [None], (None,), [True], (True,), (1,), (0,), ((),), ([],), [()], [[]], [[], []], ["a"], ("a",),
        {"a": 1}, {"skip": ()}, {"": {}}, [1, True, 1], (1, True, 1), (True, 0, 0), (Ratio(1), 0, 0),
        [Ratio(1), True], (0, 0, 0), (2, 0, 2), (-1, 1, 1), (1, None, 0), (1, "0", 0), (1, [0], 0), [1, 0, 0, "a"],
        ("skip", ()), ["skip"], ("skip", "skip"), ("hole", 0), ("Skip",), ("set",), ("set", 0), ("set", 0, 0),
        ("set", True, [0, 0]), ("set", 0, [0, True]), ("set", 0, (0, None)), ("set", 0, {"a": 1}), ("set", 0, "01"),
        ("draw", 0, [0, 1], (1, 1)), ("draw", 0, (0, 1), [1, 1]), ("draw", 0, (0, 1), (1, Ratio(1))),
        ("draw", 0, (0, 1), (2, 2)), ("draw", 0, (1, 0), (1, 1)), ("draw", 0, (0, True), (1, 1)),
        ("draw", 0, (0, 1), (True, 1)), ("draw", 0, None, None), ("then", ("skip",)), ("then", ["skip"], ("skip",)),
        ("then", None, None), ("if", [0], ("skip",)), ("if", [0, 0], ("skip",), ("skip",)), ("if", None, None, None),
        ("if", [False], ("skip",), ("skip",)), ("either", 1, 2), ("while", 0, ("skip",)), ("while", ["0"], ("skip",)),
        ("while", [1, 0], ("skip",)), ("while", [True], ("skip",)), ("while", [-1], ("skip",)),
        ["then", ("skip",), ("skip",)], (("skip",),), [("skip",)], ((1, 0), (0, 1)), (0, (), ()), (None, None, None),
        (Ratio(1, 2), [Ratio(1, 2)], [0, 0, 1]), shared_thens(59), ("while", [0], shared_thens(58)),
        nested(list, 60), nested(tuple, 60), nested(dict, 60), ("either", nested(tuple, 59), nested(list, 59)),
    ]
