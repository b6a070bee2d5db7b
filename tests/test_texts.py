"""Tests of endlots.texts: [4] and [41] to [45], with the head of their stage."""

import random
import unittest

from endlots.errors import (
    InvalidPart, InvalidPath, InvalidSpace, InvalidSurrounding, InvalidText, TooMany,
)
from endlots.ratios import Ratio
from endlots.spaces import Space
from endlots.texts import (
    depth, fill, is_straight, is_surrounding, is_text, part_at, parts, put_at, size,
)
from odd import ALL_SIZES, ErrorCase, any_values, nested, shared_thens

SKIP, HOLE = ("skip",), ("hole",)
TWO = Space([2])


def wrapped(part, times, make):
    for _ in range(times):
        part = make(part)
    return part


def looped(part, times=1):
    return wrapped(part, times, lambda inner: ("while", [0], inner))


def of_size(count, last=SKIP):
    """A text of so many parts other than then, of which one is `last`."""
    return wrapped(last, count - 1, lambda inner: ("then", SKIP, inner))


def drawn_text(chance, space, deep, lists=True):
    """A text of the space, with lists or with tuples where the document has lists."""
    kind = chance.choice(["skip", "set", "draw", "then", "if", "either", "while"] if deep > 0 else ["skip", "set", "draw"])
    name = chance.randrange(len(space.sizes))
    values = range(space.sizes[name])
    as_listed = list if lists else tuple
    stores = as_listed(sorted(chance.sample(range(len(space)), chance.randrange(len(space) + 1))))
    inner = [drawn_text(chance, space, deep - 1, lists) if deep > 0 else SKIP for _ in range(2)]
    return {
        "skip": ("skip",),
        "set": ("set", name, as_listed(chance.choice(values) for _ in range(len(space)))),
        "draw": ("draw", name, tuple(sorted(chance.sample(values, 2))), chance.choice([(1, 1), (2, 3), (10 ** 6, 1)])),
        "then": ("then", *inner),
        "if": ("if", stores, *inner),
        "either": ("either", *inner),
        "while": ("while", stores, inner[0]),
    }[kind]


def tupled(value):
    return tuple(tupled(item) for item in value) if isinstance(value, (list, tuple)) else value


def plain_children(text):
    return [item for item in text if isinstance(item, tuple) and item and isinstance(item[0], str)]


def plain_parts(text, path=()):
    """The parts of a text, by what stands in it in the place of parts."""
    found = [(path, tupled(text))]
    for at, child in enumerate(plain_children(text)):
        found += plain_parts(child, path + (at,))
    return found


def plain_depth(text):
    return max([0] + [plain_depth(item) for item in plain_children(text)]) + (text[0] == "while")


WRONG_PARTS = [
    [], (), None, True, "skip", ["skip"], ("skip", 1), ("skip", ()), (SKIP,), ("SKIP",), ("stop",), (1,), (("skip",),),
    ("set",), ("set", 0), ("set", 0, [0, 1], 1), ("set", 1, [0, 1]), ("set", -1, [0, 1]), ("set", True, [0, 1]),
    ("set", False, [0, 1]), ("set", Ratio(0), [0, 1]), ("set", "0", [0, 1]), ("set", [0], [0, 1]), ("set", None, [0, 1]),
    ("set", 0, []), ("set", 0, [0]), ("set", 0, [0, 1, 0]), ("set", 0, [0, 2]), ("set", 0, [0, -1]), ("set", 0, [0, True]),
    ("set", 0, [False, 0]), ("set", 0, [0, Ratio(1)]), ("set", 0, "01"), ("set", 0, {0: 0, 1: 1}), ("set", 0, 0),
    ("set", 0, None), ("set", 0, [[0], [1]]), ("set", 0, TWO), ["set", 0, [0, 1]],
    ("draw", 0, (0, 1)), ("draw", 1, (0, 1), (1, 1)), ("draw", True, (0, 1), (1, 1)), ("draw", 0, [0, 1], (1, 1)),
    ("draw", 0, (0, 1), [1, 1]), ("draw", 0, (1, 0), (1, 1)), ("draw", 0, (0, 0), (1, 1)), ("draw", 0, (1, 1), (1, 1)),
    ("draw", 0, (0, 2), (1, 1)), ("draw", 0, (-1, 1), (1, 1)), ("draw", 0, (0, True), (1, 1)), ("draw", 0, (0,), (1,)),
    ("draw", 0, (0, 1, 1), (1, 1)), ("draw", 0, (0, 1), (1, 1, 1)), ("draw", 0, (0, 1), (2, 2)), ("draw", 0, (0, 1), (6, 9)),
    ("draw", 0, (0, 1), (0, 1)), ("draw", 0, (0, 1), (1, 0)), ("draw", 0, (0, 1), (-1, 1)), ("draw", 0, (0, 1), (1, True)),
    ("draw", 0, (0, 1), (1, Ratio(1))), ("draw", 0, (0, 1), (1, 10 ** 6 + 1)), ("draw", 0, (0, 1), (10 ** 6 + 1, 1)),
    ("draw", 0, (0, 1), None), ("draw", 0, None, (1, 1)), ("draw", 0, "01", (1, 1)), ("draw", 0, (0, 1), (1,)),
    ("draw", 0, (0, 1), (1, 1), SKIP), ("draw", 0, (0, 1), "11"),
    ("then", SKIP), ("then", SKIP, SKIP, SKIP), ("then", SKIP, ["skip"]), ("then", SKIP, None), ["then", SKIP, SKIP],
    ("then", [SKIP, SKIP]), ("then", (SKIP, SKIP)), ("then", "skip", "skip"),
    ("if", [0], SKIP), ("if", SKIP, SKIP, [0]), ("if", [1, 0], SKIP, SKIP), ("if", [0, 0], SKIP, SKIP),
    ("if", [2], SKIP, SKIP), ("if", [-1], SKIP, SKIP), ("if", [True], SKIP, SKIP), ("if", [0, 1, 2], SKIP, SKIP),
    ("if", None, SKIP, SKIP), ("if", 0, SKIP, SKIP), ("if", "0", SKIP, SKIP), ("if", {0: 1}, SKIP, SKIP),
    ("if", [Ratio(0)], SKIP, SKIP), ("if", [0], SKIP, ["skip"]), ("if", [[0]], SKIP, SKIP), ("if", SKIP, SKIP),
    ("either", SKIP), ("either", SKIP, SKIP, SKIP), ("either", SKIP, ()), ("either", [SKIP], SKIP),
    ("while", [0]), ("while", SKIP), ("while", [0], SKIP, SKIP), ("while", [2], SKIP), ("while", [1, 0], SKIP),
    ("while", [0, 0], SKIP), ("while", [False], SKIP), ("while", None, SKIP), ("while", [0], ["skip"]), ("while", 0, SKIP),
]

NO_SPACES = [value for value in any_values() if not isinstance(value, Space)]


class TextCase(ErrorCase):
    def assert_too_many(self, count, call, *arguments):
        with self.assertRaises(TooMany) as caught:
            call(*arguments)
        self.assertEqual(caught.exception.count, count)
        self.assertIs(type(caught.exception.count), int)

    def assert_tuples(self, value):
        self.assertNotIsInstance(value, list)
        if isinstance(value, tuple):
            for item in value:
                self.assert_tuples(item)


class TestTexts(TextCase):
    def test_each_kind(self):
        good = [
            SKIP, ("set", 0, [0, 1]), ("set", 0, (1, 1)), ("draw", 0, (0, 1), (1, 1)), ("draw", 0, (0, 1), (10 ** 6, 1)),
            ("draw", 0, (0, 1), (1, 10 ** 6)), ("draw", 0, (0, 1), (999999, 10 ** 6)), ("then", SKIP, SKIP),
            ("if", [], SKIP, SKIP), ("if", (0, 1), SKIP, SKIP), ("if", [1], SKIP, SKIP), ("either", SKIP, SKIP),
            ("while", [], SKIP), ("while", (0,), SKIP), ("while", [0, 1], ("while", [1], SKIP)),
        ]
        for text in good:
            self.assertIs(is_text(TWO, text), True, text)
            self.assertIs(is_text(space=TWO, value=text), True)
            self.assertIs(is_surrounding(TWO, text), False)
            self.assertIs(is_surrounding(TWO, ("then", text, HOLE)), True, text)

    def test_wrong_parts(self):
        for value in WRONG_PARTS + [one for one in any_values() if one != ("draw", 0, (0, 1), (1, 1))]:
            self.assertIs(is_text(TWO, value), False, value)
            self.assertIs(is_surrounding(TWO, value), False, value)
            # What is wrong stays wrong at each place within a text.
            for text in [
                    ("then", value, SKIP), ("then", SKIP, value), ("either", value, SKIP), ("either", SKIP, value),
                    ("if", [0], value, SKIP), ("if", [0], SKIP, value), ("while", [0], value), ("while", [], value)]:
                self.assertIs(is_text(TWO, text), False, text)
                self.assertIs(is_surrounding(TWO, ("then", HOLE, text)), False, text)

    def test_names_and_stores_of_each_space(self):
        for sizes in ALL_SIZES:
            space, many = Space(sizes), len(Space(sizes))
            for name, count in enumerate(sizes):
                self.assertTrue(is_text(space, ("set", name, [count - 1] * many)))
                self.assertFalse(is_text(space, ("set", name, [count] * many)))
                self.assertFalse(is_text(space, ("set", name, [0] * (many - 1))))
                self.assertFalse(is_text(space, ("set", name, [0] * (many + 1))))
                self.assertTrue(is_text(space, ("draw", name, (0, count - 1), (2, 3))))
                self.assertFalse(is_text(space, ("draw", name, (0, count), (2, 3))))
            self.assertFalse(is_text(space, ("set", len(sizes), [0] * many)))
            self.assertFalse(is_text(space, ("draw", len(sizes), (0, 1), (1, 1))))
            self.assertTrue(is_text(space, ("if", list(range(many)), SKIP, SKIP)))
            self.assertFalse(is_text(space, ("if", [many], SKIP, SKIP)))
            self.assertTrue(is_text(space, ("while", [many - 1], SKIP)))
            self.assertFalse(is_text(space, ("while", [0, many], SKIP)))

    def test_bounds_of_size(self):
        self.assertIs(is_text(TWO, of_size(24)), True)
        self.assertIs(is_text(TWO, of_size(25)), False)
        self.assertIs(is_text(TWO, wrapped(SKIP, 23, lambda part: ("if", [0], part, SKIP))), False)
        self.assertIs(is_text(TWO, wrapped(SKIP, 11, lambda part: ("either", part, SKIP))), True)
        self.assertIs(is_text(TWO, ("then", SKIP, wrapped(SKIP, 11, lambda part: ("either", part, SKIP)))), True)
        self.assertIs(is_text(TWO, wrapped(SKIP, 12, lambda part: ("either", SKIP, part))), False)
        self.assertIs(is_text(TWO, shared_thens(4)), True)
        self.assertIs(is_text(TWO, shared_thens(5)), False)
        self.assertIs(is_text(TWO, shared_thens(58)), False)

    def test_bounds_of_depth(self):
        self.assertIs(is_text(TWO, looped(SKIP, 4)), True)
        self.assertIs(is_text(TWO, looped(SKIP, 5)), False)
        self.assertIs(is_text(TWO, ("then", looped(SKIP, 4), looped(SKIP, 4))), True)
        self.assertIs(is_text(TWO, looped(("either", SKIP, looped(("then", SKIP, looped(SKIP)), 2)))), True)
        self.assertIs(is_text(TWO, looped(("if", [0], SKIP, looped(("either", looped(SKIP, 3), SKIP))))), False)
        self.assertIs(is_text(TWO, ("while", [], ("while", [], ("while", [], ("while", [], ("while", [], SKIP)))))), False)

    def test_no_space_comes_first(self):
        for value in NO_SPACES:
            self.assert_raises_with(InvalidSpace, value, is_text, value, SKIP)
            self.assert_raises_with(InvalidSpace, value, is_surrounding, value, None)
            self.assert_raises_with(InvalidSpace, value, put_at, value, None, None, None)
            self.assert_raises_with(InvalidSpace, value, fill, value, None, None)


class TestSurroundings(TextCase):
    def test_holes(self):
        self.assertIs(is_surrounding(TWO, HOLE), True)
        self.assertIs(is_surrounding(space=TWO, value=("either", HOLE, HOLE)), True)
        self.assertIs(is_surrounding(TWO, ("either", HOLE, ("then", HOLE, HOLE))), True)
        self.assertIs(is_surrounding(TWO, ("either", ("then", HOLE, HOLE), ("then", HOLE, HOLE))), False)
        self.assertIs(is_surrounding(TWO, SKIP), False)
        for value in (HOLE, ("either", HOLE, HOLE), ("while", [0], HOLE), ("then", SKIP, HOLE)):
            self.assertIs(is_text(TWO, value), False)
        for value in (["hole"], ("hole", 1), ("hole", ()), ("holes",), "hole", (HOLE,), ("then", HOLE, ["skip"])):
            self.assertIs(is_surrounding(TWO, value), False)

    def test_bounds(self):
        self.assertIs(is_surrounding(TWO, of_size(24, HOLE)), True)
        self.assertIs(is_surrounding(TWO, of_size(25, HOLE)), False)
        self.assertIs(is_surrounding(TWO, ("then", HOLE, of_size(23, HOLE))), True)
        self.assertIs(is_surrounding(TWO, ("then", HOLE, of_size(24, HOLE))), False)
        self.assertIs(is_surrounding(TWO, looped(HOLE, 4)), True)
        self.assertIs(is_surrounding(TWO, looped(HOLE, 5)), False)
        self.assertIs(is_surrounding(TWO, ("if", [2], HOLE, SKIP)), False)
        self.assertIs(is_surrounding(Space([3]), ("if", [2], HOLE, SKIP)), True)

    def test_straight(self):
        for surrounding in [
                HOLE, ("then", looped(SKIP), HOLE), ("either", HOLE, ("if", [7], HOLE, looped(SKIP, 4))),
                ("if", [], ("then", HOLE, HOLE), HOLE)]:
            self.assertIs(is_straight(surrounding), True)
            self.assertIs(is_straight(surrounding=surrounding), True)
        for surrounding in [
                looped(HOLE), ("while", [], HOLE), ("then", HOLE, ("while", (), ("either", SKIP, HOLE))),
                looped(("then", looped(SKIP), ("if", [0], SKIP, HOLE))), looped(HOLE, 4)]:
            self.assertIs(is_straight(surrounding), False)

    def test_straight_of_no_surrounding(self):
        wrong = [
            SKIP, ("then", SKIP, SKIP), of_size(25, HOLE), looped(HOLE, 5), ("if", [8], HOLE, SKIP),
            ("either", ("then", HOLE, HOLE), ("then", HOLE, HOLE)),
            ("then", HOLE, ("then", ("set", 0, [0, 1]), ("set", 0, [0, 1, 1]))),
            ("then", HOLE, ("then", ("set", 0, [0, 1]), ("if", [2], SKIP, SKIP))),
        ]
        for value in wrong + [("then", HOLE, part) for part in WRONG_PARTS if not is_any(part)] + any_values():
            self.assert_raises_with(InvalidSurrounding, value, is_straight, value)


def is_any(value):
    """Whether a value is a text or a surrounding of some space."""
    spaces = [Space(sizes) for sizes in ALL_SIZES]
    return any(is_text(space, value) or is_surrounding(space, value) for space in spaces)


class TestParts(TextCase):
    def test_paths(self):
        text = ("then", ("draw", 0, (0, 1), (1, 2)), ("while", [1], ("if", [0], SKIP, ("either", HOLE, SKIP))))
        told = parts(text=text)
        self.assertEqual([path for path, _ in told], [(), (0,), (1,), (1, 0), (1, 0, 0), (1, 0, 1), (1, 0, 1, 0), (1, 0, 1, 1)])
        self.assertEqual(told[3][1], ("if", (0,), SKIP, ("either", HOLE, SKIP)))
        self.assertEqual(parts(SKIP), [((), SKIP)])
        self.assertEqual(parts(HOLE), [((), HOLE)])
        self.assertEqual(parts(("then", SKIP, SKIP)), [((), ("then", SKIP, SKIP)), ((0,), SKIP), ((1,), SKIP)])

    def test_many(self):
        chance = random.Random(41)
        seen = 0
        for _ in range(300):
            space = Space(chance.choice(ALL_SIZES))
            text = drawn_text(chance, space, 4, chance.random() < 0.5)
            if chance.random() < 0.5:
                text = ("then", HOLE, text)
            wanted = plain_parts(text)
            wanted_size = sum(part[0] != "then" for _, part in wanted)
            fits = wanted_size <= 24 and plain_depth(text) <= 4
            self.assertIs(is_text(space, text) or is_surrounding(space, text), fits)
            if not fits:
                self.assert_raises_with(InvalidText, text, parts, text)
                continue
            seen += 1
            told = parts(text)
            self.assertIs(type(told), list)
            self.assertEqual(told, wanted)
            self.assertEqual([path for path, _ in told], sorted(path for path, _ in told))
            self.assertEqual((size(text), depth(text)), (wanted_size, plain_depth(text)))
            for path, part in told:
                found = part_at(text, path)
                self.assertEqual(found, part)
                self.assert_tuples(found)
        self.assertGreater(seen, 100)

    def test_part_at(self):
        text = ("then", ("set", 0, [0, 1]), ("while", [1], SKIP))
        self.assertEqual(part_at(text=text, path=(0,)), ("set", 0, (0, 1)))
        self.assertEqual(part_at(text, ()), ("then", ("set", 0, (0, 1)), ("while", (1,), SKIP)))
        wrong = [
            [], [0], (2,), (-1,), (0, 0), (1, 1), (1, 0, 0), (True,), (False,), (1, False), (Ratio(1),), ("0",), (None,),
            ((0,),), ([0],), 0, None, "", "0", {}, {0: 0}, (0, None), (1, 0, None), (10 ** 60,),
        ]
        for path in wrong:
            self.assert_raises_with(InvalidPath, path, part_at, text, path)
        for path in any_values():
            if path not in ((), (0,), (1,)):
                self.assert_raises_with(InvalidPath, path, part_at, ("then", SKIP, SKIP), path)
        self.assert_raises_with(InvalidPath, (0,), part_at, SKIP, (0,))

    def test_text_of_no_one_space(self):
        wrong = [
            ("then", ("set", 0, [0, 1]), ("set", 0, [0, 1, 1])), ("then", ("set", 0, [0, 1]), ("if", [2], SKIP, SKIP)),
            ("then", ("set", 0, [0] * 4), ("while", [4], SKIP)), ("then", ("set", 2, [0] * 8), ("set", 1, [2] * 8)),
            ("then", ("set", 1, [3] * 8), ("set", 0, [2] * 8)), ("set", 0, [0] * 9), ("set", 3, [0] * 8), ("set", 0, [0]),
            ("if", [8], SKIP, SKIP), ("while", [0, 8], HOLE), ("set", 1, [4] * 8), ("draw", 0, (0, 8), (1, 1)), of_size(25),
            ("draw", 1, (0, 4), (1, 1)), ("draw", 2, (0, 2), (1, 1)), ("then", ("draw", 1, (0, 1), (1, 1)), ("set", 0, [0] * 5)),
            looped(SKIP, 5), of_size(25, HOLE), looped(HOLE, 5), ("then", ("then", HOLE, HOLE), ("then", HOLE, HOLE)),
        ]
        wrong += [part for part in WRONG_PARTS if not is_any(part)]
        wrong += [one for one in any_values() if not is_any(one)]
        self.assertGreater(len(wrong), 150)
        for value in wrong:
            self.assert_raises_with(InvalidText, value, parts, value)
            self.assert_raises_with(InvalidText, value, size, value)
            self.assert_raises_with(InvalidText, value, depth, value)
            self.assert_raises_with(InvalidText, value, part_at, value, None)

    def test_text_of_some_one_space(self):
        good = [
            ("then", ("set", 0, [0] * 8), ("set", 2, [1] * 8)), ("then", ("set", 1, [3] * 8), ("set", 0, [1] * 8)),
            ("set", 0, [7] * 8), ("if", [7], SKIP, SKIP), ("draw", 0, (0, 7), (1, 1)), ("draw", 1, (2, 3), (1, 1)),
            ("set", 1, [2] * 6), ("then", ("set", 0, [2] * 6), ("set", 1, [1] * 6)), ("set", 0, [4] * 5), ("set", 0, [0] * 7),
            ("then", ("draw", 0, (0, 3), (1, 1)), ("draw", 1, (0, 1), (1, 1))), ("draw", 2, (0, 1), (1, 1)),
        ]
        for value in good:
            self.assertEqual(part_at(value, ()), tupled(value))
            self.assertEqual(depth(value), 0)

    def test_size_and_depth(self):
        self.assertEqual([size(text=of_size(count)) for count in range(1, 25)], list(range(1, 25)))
        self.assertEqual([depth(text=looped(SKIP, count)) for count in range(5)], list(range(5)))
        self.assertEqual(size(("then", ("then", HOLE, SKIP), looped(("if", [], SKIP, ("either", SKIP, SKIP))))), 8)
        self.assertEqual(depth(("then", looped(SKIP, 2), ("either", looped(looped(HOLE), 2), SKIP))), 3)
        self.assertEqual(depth(("then", looped(SKIP), looped(SKIP))), 1)

    def test_told_lists_are_new(self):
        text = ("then", SKIP, ("set", 0, [0, 1]))
        told = parts(text)
        told.clear()
        self.assertEqual(len(parts(text)), 3)
        self.assertEqual(text, ("then", SKIP, ("set", 0, [0, 1])))


class TestPuttingIn(TextCase):
    def test_put_at(self):
        self.assertEqual(put_at(TWO, ("either", SKIP, SKIP), (1,), ("set", 0, [1, 0])), ("either", SKIP, ("set", 0, (1, 0))))
        text = ("if", [0], ("set", 0, [0, 1]), ("while", [1], ("then", SKIP, SKIP)))
        told = put_at(space=TWO, text=text, path=(1, 0, 0), part=("while", [0], SKIP))
        self.assertEqual(told, ("if", (0,), ("set", 0, (0, 1)), ("while", (1,), ("then", ("while", (0,), SKIP), SKIP))))
        self.assert_tuples(told)
        self.assertEqual(put_at(TWO, text, (), ("if", [], SKIP, SKIP)), ("if", (), SKIP, SKIP))
        self.assertEqual(put_at(TWO, SKIP, (), SKIP), SKIP)
        self.assertEqual(text, ("if", [0], ("set", 0, [0, 1]), ("while", [1], ("then", SKIP, SKIP))))

    def test_put_at_each_path(self):
        chance = random.Random(42)
        for _ in range(80):
            space = Space(chance.choice(ALL_SIZES))
            text, part = drawn_text(chance, space, 3), drawn_text(chance, space, 2)
            if not is_text(space, text) or not is_text(space, part):
                continue
            for path, old in parts(text):
                wanted = size(text) - size(old) + size(part)
                if wanted > 24:
                    self.assert_too_many(wanted, put_at, space, text, path, part)
                    continue
                try:
                    told = put_at(space, text, path, part)
                except TooMany as error:
                    self.assertGreater(error.count, 4)
                    continue
                self.assertEqual(part_at(told, path), tupled(part))
                self.assertEqual(put_at(space, told, path, old), tupled(text))
                self.assert_tuples(told)

    def test_errors_of_put_at_in_order(self):
        text, part = ("either", SKIP, SKIP), ("set", 0, [0, 1])
        wrong = WRONG_PARTS + [HOLE, ("then", HOLE, SKIP), of_size(25), looped(SKIP, 5), ("set", 0, [0, 1, 1])]
        for value in wrong:
            self.assert_raises_with(InvalidText, value, put_at, TWO, value, None, None)
            self.assert_raises_with(InvalidPart, value, put_at, TWO, text, (1,), value)
        for path in [None, [], [1], (2,), (0, 0), (True,), (False,), (Ratio(0),), "0", 0, (-1,), ("1",)]:
            self.assert_raises_with(InvalidPath, path, put_at, TWO, text, path, None)
            self.assert_raises_with(InvalidPath, path, put_at, TWO, text, path, part)

    def test_bounds_of_put_at(self):
        self.assertEqual(size(put_at(TWO, of_size(23), (0,), ("then", SKIP, SKIP))), 24)
        self.assert_too_many(25, put_at, TWO, of_size(24), (0,), ("then", SKIP, SKIP))
        self.assert_too_many(47, put_at, TWO, of_size(24), (1, 0), of_size(24))
        self.assertEqual(put_at(TWO, of_size(24), (), of_size(24)), of_size(24))
        self.assertEqual(depth(put_at(TWO, looped(SKIP, 2), (0, 0), looped(SKIP, 2))), 4)
        self.assert_too_many(5, put_at, TWO, looped(SKIP, 3), (0, 0, 0), looped(SKIP, 2))
        self.assert_too_many(8, put_at, TWO, looped(SKIP, 4), (0, 0, 0, 0), looped(SKIP, 4))
        self.assertEqual(depth(put_at(TWO, looped(SKIP, 4), (0,), looped(SKIP, 3))), 4)
        # The size comes ahead of the depth.
        self.assert_too_many(26, put_at, TWO, looped(of_size(20), 4), (0, 0, 0, 0, 0), looped(of_size(2)))

    def test_fill(self):
        surrounding = ("either", HOLE, ("while", [0], ("then", HOLE, ("set", 0, [1, 1]))))
        told = fill(space=TWO, surrounding=surrounding, text=("if", [1], SKIP, SKIP))
        inner = ("if", (1,), SKIP, SKIP)
        self.assertEqual(told, ("either", inner, ("while", (0,), ("then", inner, ("set", 0, (1, 1))))))
        self.assert_tuples(told)
        self.assertEqual(fill(TWO, HOLE, ("set", 0, [0, 1])), ("set", 0, (0, 1)))
        self.assertEqual(fill(TWO, ("then", HOLE, ("either", HOLE, HOLE)), SKIP), ("then", SKIP, ("either", SKIP, SKIP)))
        self.assertEqual(surrounding, ("either", HOLE, ("while", [0], ("then", HOLE, ("set", 0, [1, 1])))))

    def test_errors_of_fill_in_order(self):
        wrong = WRONG_PARTS + [SKIP, ("then", SKIP, SKIP), of_size(25, HOLE), looped(HOLE, 5)]
        for value in wrong + [("then", HOLE, ("set", 0, [0, 1, 1])), ("then", HOLE, ("then", HOLE, ("then", HOLE, HOLE)))]:
            self.assert_raises_with(InvalidSurrounding, value, fill, TWO, value, None)
        for value in WRONG_PARTS + [HOLE, ("then", SKIP, HOLE), of_size(25), looped(SKIP, 5), ("set", 0, [0, 1, 1])]:
            self.assert_raises_with(InvalidText, value, fill, TWO, HOLE, value)

    def test_bounds_of_fill(self):
        three = ("then", HOLE, ("then", HOLE, HOLE))
        self.assertEqual(size(fill(TWO, three, of_size(8))), 24)
        self.assert_too_many(27, fill, TWO, three, of_size(9))
        self.assert_too_many(72, fill, TWO, three, of_size(24))
        self.assert_too_many(25, fill, TWO, of_size(24, HOLE), of_size(2))
        self.assertEqual(depth(fill(TWO, looped(HOLE, 3), looped(SKIP))), 4)
        self.assert_too_many(5, fill, TWO, looped(HOLE, 3), looped(SKIP, 2))
        self.assert_too_many(8, fill, TWO, ("then", HOLE, looped(HOLE, 4)), looped(SKIP, 4))
        self.assert_too_many(28, fill, TWO, looped(HOLE, 4), looped(of_size(23)))

    def test_equal_answers(self):
        listed, tuples = ("then", SKIP, ("if", [0, 1], SKIP, HOLE)), ("then", SKIP, ("if", (0, 1), SKIP, HOLE))
        self.assertEqual(fill(TWO, listed, ("set", 0, [1, 1])), fill(TWO, tuples, ("set", 0, (1, 1))))
        self.assertEqual(parts(listed), parts(tuples))
        self.assertEqual(part_at(listed, (1,)), part_at(tuples, (1,)))

    def test_any_value_is_judged(self):
        for value in any_values():
            for part in (value, ("then", SKIP, value), ("while", value, SKIP), ("set", value, value), ("draw", 0, value, value)):
                self.assertIn(is_text(TWO, part), (True, False))
                self.assertIn(is_surrounding(TWO, part), (True, False))
        self.assertIs(is_text(TWO, ("either", nested(tuple, 59), SKIP)), False)

    def test_examples(self):
        text = ("then", ("draw", 0, (0, 1), (1, 2)), ("while", [1], ("skip",)))
        self.assertEqual(
            [size(text), depth(text), part_at(text, (1,)), [path for path, part in parts(text)]],
            [3, 1, ('while', (1,), ('skip',)), [(), (0,), (1,), (1, 0)]])
        self.assertEqual(
            put_at(Space([2]), ("either", ("skip",), ("skip",)), (1,), ("set", 0, [1, 0])),
            ('either', ('skip',), ('set', 0, (1, 0))))


if __name__ == "__main__":
    unittest.main()
