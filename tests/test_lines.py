"""Tests of endlots.lines: [46], with the head of its stage."""

import random
import unittest

from endlots.errors import InvalidLine, InvalidSpace, InvalidText
from endlots.lines import line_of, read_surrounding, read_text
from endlots.spaces import Space
from endlots.texts import is_surrounding, is_text
from odd import ALL_SIZES, ErrorCase, any_values
from test_texts import (
    HOLE, NO_SPACES, SKIP, TWO, WRONG_PARTS, drawn_text, is_any, looped, of_size, shared_thens, tupled, wrapped,
)

LINES = [
    (SKIP, "skip"),
    (("set", 0, [1, 0]), "set 0 to 1,0"),
    (("draw", 0, (0, 1), (1, 2)), "draw 0 from 0,1 by 1,2"),
    (("draw", 0, (0, 1), (999999, 1000000)), "draw 0 from 0,1 by 999999,1000000"),
    (("then", SKIP, ("set", 0, (1, 1))), "(skip then set 0 to 1,1)"),
    (("if", [], SKIP, SKIP), "(if none do skip else skip)"),
    (("if", [1], SKIP, ("set", 0, [0, 0])), "(if 1 do skip else set 0 to 0,0)"),
    (("if", (0, 1), SKIP, ("then", SKIP, SKIP)), "(if 0,1 do skip else (skip then skip))"),
    (("either", ("either", SKIP, SKIP), SKIP), "(either (either skip or skip) or skip)"),
    (("while", [], SKIP), "(while none do skip)"),
    (("while", [0, 1], ("while", [1], SKIP)), "(while 0,1 do (while 1 do skip))"),
    (("then", ("then", SKIP, SKIP), ("then", SKIP, SKIP)), "((skip then skip) then (skip then skip))"),
]

# Each of these is the line of no text and of no surrounding of the space of two stores.
WRONG_LINES = [
    "", " ", "skip ", " skip", "Skip", "skip\n", "(skip)", "()", "(", ")", "skip skip", "then", "skip then skip",
    "(skip then skip", "skip then skip)", "(skip  then skip)", "( skip then skip)", "(skip then skip )", "(skip then)",
    "(then skip)", "(skip or skip)", "(either skip then skip)", "(either skip or skip", "(either skip or skip))",
    "either skip or skip", "(either skip or)", "(either or skip)", "(either skip or skip or skip)", "(skip then skip) ",
    "(skip then skip then skip)", "((skip then skip))", "set", "set 0", "set 0 to", "set 0 to ", "set 0 to 0",
    "set 0 to 0,2", "set 0 to 0,1,0", "set 1 to 0,1", "set 0 to 0, 1", "set 0 to 0,1,", "set 0 to ,0,1", "set 0 to 0,01",
    "set 00 to 0,1", "set 0 to none", "set none to 0,1", "set 0 to +0,1", "set 0 to -0,1", "set -0 to 0,1", "set 0 to 0 1",
    "set  0 to 0,1", "set 0 too 0,1", "set 0 to 0,\u0661", "set \u0660 to 0,1", "set 0 to 0,\u00b9", "set 0 by 0,1",
    "set 0 to 0,1 ", "set 0 to [0, 1]", "set 0 to 0,1 to 0,1", "(set 0 to 0,1)", "set 0 to 0;1", "set 0\tto 0,1",
    "set 0 to 0," + "1" * 5000, "set " + "0" * 5000 + " to 0,1",
    "draw 0", "draw 0 from 0,1", "draw 0 from 0,1 by", "draw 0 from 0,1 by 1", "draw 0 from 1,0 by 1,1",
    "draw 0 from 0,0 by 1,1", "draw 0 from 0,2 by 1,1", "draw 0 from 0,1 by 2,2", "draw 0 from 0,1 by 0,1",
    "draw 0 from 0,1 by 1,1000001", "draw 0 from 0,1 by 1,0000001", "draw 0 from 0,1 by 1,01", "draw 1 from 0,1 by 1,1",
    "draw 0 from 0,1 by 1,1,1", "draw 0 from 0,1,1 by 1,1", "draw 0 to 0,1 by 1,1", "draw 0 from none by 1,1",
    "draw 0 by 1,1 from 0,1", "draw 0 from 0,1 by -1,1", "draw 0 from 0,1 by 1,99999999999999999999",
    "(if 0 do skip)", "(if do skip else skip)", "(if  do skip else skip)", "(if 0 do skip else)", "(if 0 then skip else skip)",
    "(if 2 do skip else skip)", "(if 1,0 do skip else skip)", "(if 0,0 do skip else skip)", "(if 00 do skip else skip)",
    "(if none,0 do skip else skip)", "(if 0,none do skip else skip)", "(if 0 do skip or skip)", "(if None do skip else skip)",
    "(if -1 do skip else skip)", "if 0 do skip else skip", "(if 0 do skip else skip else skip)", "(if , do skip else skip)",
    "(while do skip)", "(while 2 do skip)", "(while 0 do)", "(while 0 skip)", "while 0 do skip", "(while 0 do skip",
    "(while 0 do skip)x", "(while 0 do skip) skip", "(while 0,1,2 do skip)", "(while 0 do skip skip)", "(while 0 do skip else skip)",
    "hole ", "(hole)", "holes", "(hole then)", "(hole then hole then hole)",
    "(" * 60, "(" * 60 + "skip" + ")" * 60, "(" * 2000 + ")" * 2000, "skip" * 1000, "(skip then " * 60 + "skip" + ")" * 60,
    "(either " * 60, ")" * 60, "set " * 1000, "\u0000", "((((((((",
]


class LineCase(ErrorCase):
    def assert_tuples(self, value):
        self.assertNotIsInstance(value, list)
        for item in value if isinstance(value, tuple) else ():
            self.assert_tuples(item)


class TestLines(LineCase):
    def test_each_kind(self):
        for text, line in LINES:
            self.assertEqual(line_of(text), line)
            self.assertEqual(line_of(text=tupled(text)), line)
            told = read_text(TWO, line)
            self.assertEqual(told, tupled(text))
            self.assert_tuples(told)
            self.assertEqual(read_text(space=TWO, line=line), told)
            self.assert_raises_with(InvalidLine, line, read_surrounding, TWO, line)

    def test_each_kind_with_a_hole(self):
        self.assertEqual(line_of(HOLE), "hole")
        self.assertEqual(read_surrounding(space=TWO, line="hole"), HOLE)
        for text, line in LINES:
            holed = f"(hole then {line})"
            self.assertEqual(line_of(("then", HOLE, text)), holed)
            self.assertEqual(read_surrounding(TWO, holed), ("then", HOLE, tupled(text)))
            self.assert_raises_with(InvalidLine, holed, read_text, TWO, holed)
        self.assertEqual(line_of(("if", [], HOLE, SKIP)), "(if none do hole else skip)")
        three = "(either (while 0 do hole) or (if none do hole else hole))"
        self.assertEqual(line_of(read_surrounding(TWO, three)), three)
        four = f"(hole then {three})"
        self.assert_raises_with(InvalidLine, four, read_surrounding, TWO, four)

    def test_lines_of_none(self):
        for line in WRONG_LINES + any_values():
            self.assert_raises_with(InvalidLine, line, read_text, TWO, line)
            self.assert_raises_with(InvalidLine, line, read_surrounding, TWO, line)

    def test_line_of_another_space(self):
        self.assertEqual(read_text(Space([3]), "set 0 to 0,1,2"), ("set", 0, (0, 1, 2)))
        self.assert_raises_with(InvalidLine, "set 0 to 0,1,2", read_text, TWO, "set 0 to 0,1,2")
        self.assertEqual(read_text(Space([2, 2, 2]), "(if 7 do skip else draw 2 from 0,1 by 1,1)")[1], (7,))
        self.assert_raises_with(InvalidLine, "(if 7 do skip else skip)", read_text, Space([7]), "(if 7 do skip else skip)")

    def test_bounds(self):
        for count in (23, 24):
            self.assertEqual(line_of(read_text(TWO, line_of(of_size(count)))), line_of(of_size(count)))
        longer = f"(skip then {line_of(of_size(24))})"
        self.assert_raises_with(InvalidLine, longer, read_text, TWO, longer)
        self.assert_raises_with(InvalidLine, longer, read_surrounding, TWO, longer)
        holed = f"(hole then {line_of(of_size(24))})"
        self.assert_raises_with(InvalidLine, holed, read_surrounding, TWO, holed)
        self.assertEqual(read_surrounding(TWO, line_of(of_size(24, HOLE))), of_size(24, HOLE))
        self.assertEqual(read_text(TWO, line_of(looped(SKIP, 4))), tupled(looped(SKIP, 4)))
        deeper = f"(while 0 do {line_of(looped(SKIP, 4))})"
        self.assert_raises_with(InvalidLine, deeper, read_text, TWO, deeper)
        deep = line_of(wrapped(SKIP, 23, lambda part: ("then", part, SKIP)))
        self.assertEqual(line_of(read_text(TWO, deep)), deep)

    def test_there_and_back(self):
        chance = random.Random(61)
        seen = 0
        for _ in range(300):
            space = Space(chance.choice(ALL_SIZES))
            text = drawn_text(chance, space, 4, chance.random() < 0.5)
            if is_text(space, text):
                seen += 1
                line = line_of(text)
                self.assertEqual(read_text(space, line), tupled(text))
                self.assertEqual(line_of(read_text(space, line)), line)
                holed = ("either", text, HOLE)
                if is_surrounding(space, holed):
                    self.assertEqual(read_surrounding(space, line_of(holed)), tupled(holed))
        self.assertGreater(seen, 100)

    def test_one_sign_otherwise(self):
        """Each changed line is that of another text, or of none."""
        chance = random.Random(62)
        signs = "01239 ,()abcdefhilnoprstuwy-"
        known = {}
        for text, line in LINES + [(("then", ("set", 0, [1, 0]), ("if", [1], HOLE, HOLE)), "")]:
            line = line_of(text)
            for at in range(len(line) + 1):
                changes = [line[:at] + sign + line[at + 1:] for sign in signs]
                changes += [line[:at] + sign + line[at:] for sign in chance.sample(signs, 6)] + [line[:at] + line[at + 1:]]
                for changed in changes:
                    if changed == line:
                        continue
                    for read in (read_text, read_surrounding):
                        try:
                            told = read(TWO, changed)
                        except InvalidLine as error:
                            self.assertIs(error.given, changed)
                            continue
                        self.assertEqual(line_of(told), changed)
                        self.assertNotEqual(told, tupled(text))
                        self.assertEqual(known.setdefault(changed, told), told)
        self.assertGreater(len(known), 20)

    def test_no_space_comes_first(self):
        for value in NO_SPACES:
            self.assert_raises_with(InvalidSpace, value, read_text, value, "skip")
            self.assert_raises_with(InvalidSpace, value, read_surrounding, value, None)

    def test_line_of_no_text(self):
        wrong = [part for part in WRONG_PARTS if not is_any(part)] + [one for one in any_values() if not is_any(one)]
        wrong += [
            of_size(25), looped(SKIP, 5), of_size(25, HOLE), ("then", ("then", HOLE, HOLE), ("then", HOLE, HOLE)),
            ("then", ("set", 0, [0, 1]), ("set", 0, [0, 1, 1])), ("if", [8], SKIP, SKIP), shared_thens(58), "skip",
        ]
        for value in wrong:
            self.assert_raises_with(InvalidText, value, line_of, value)

    def test_line_of_some_one_space(self):
        self.assertEqual(line_of(("set", 1, [3] * 8)), "set 1 to 3,3,3,3,3,3,3,3")
        self.assertEqual(line_of(("if", [0, 7], SKIP, HOLE)), "(if 0,7 do skip else hole)")

    def test_arguments_stay(self):
        text = ("if", [0], SKIP, ("set", 0, [0, 1]))
        line_of(text)
        self.assertEqual(text, ("if", [0], SKIP, ("set", 0, [0, 1])))
        self.assertIsInstance(text[1], list)

    def test_examples(self):
        self.assertEqual(line_of(("if", [], ("hole",), ("skip",))), '(if none do hole else skip)')
        self.assertEqual(
            read_text(Space([2]), "(draw 0 from 0,1 by 1,2 then skip)"), ('then', ('draw', 0, (0, 1), (1, 2)), ('skip',)))


if __name__ == "__main__":
    unittest.main()
