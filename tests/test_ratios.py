"""Tests of endlots.ratios: [2] and [22] to [25]."""

import random
import unittest
from fractions import Fraction

from endlots.errors import ByZero, InvalidLine, InvalidNumber
from endlots.ratios import (
    Ratio, as_ratio, greatest, is_amount, is_number, on_one_bottom, read_number, smallest, total,
)
from endlots.spaces import Space
from odd import any_values

WORTHS = [Fraction(top, bottom) for top in range(-6, 7) for bottom in (1, 2, 3, 4, 7)]


def ratio(worth):
    return Ratio(worth.numerator, worth.denominator)


def worth(number):
    return Fraction(number.top, number.bottom)


def is_plain_integer(value):
    return isinstance(value, int) and not isinstance(value, bool)


class TestRatio(unittest.TestCase):
    def assert_terms(self, number, top, bottom):
        self.assertIs(type(number), Ratio)
        self.assertEqual((number.top, number.bottom), (top, bottom))

    def test_lowest_terms(self):
        self.assert_terms(Ratio(-3, -6), 1, 2)
        self.assert_terms(Ratio(3, -6), -1, 2)
        self.assert_terms(Ratio(-6, 4), -3, 2)
        self.assert_terms(Ratio(0, -7), 0, 1)
        self.assert_terms(Ratio(5), 5, 1)
        self.assert_terms(Ratio(bottom=4, top=2), 1, 2)
        self.assert_terms(Ratio(7, bottom=1), 7, 1)
        self.assert_terms(Ratio(10 ** 3000, 10 ** 2999), 10, 1)

    def test_terms_of_many(self):
        for top in range(-12, 13):
            for bottom in [k for k in range(-12, 13) if k != 0]:
                told = Fraction(top, bottom)
                self.assert_terms(Ratio(top, bottom), told.numerator, told.denominator)

    def test_wrong_top_then_bottom_then_zero(self):
        for value in [one for one in any_values() if not is_plain_integer(one)]:
            for make in (lambda: Ratio(value), lambda: Ratio(value, 0), lambda: Ratio(value, None), lambda: Ratio(1, value)):
                with self.assertRaises(InvalidNumber) as caught:
                    make()
                self.assertIs(caught.exception.given, value)
        with self.assertRaises(ByZero):
            Ratio(1, 0)
        with self.assertRaises(ByZero):
            Ratio(0, 0)

    def test_equal_to_numbers_of_the_same_worth(self):
        self.assertTrue(Ratio(1, 2) == Ratio(2, 4))
        self.assertTrue(Ratio(4, 2) == 2 and 2 == Ratio(4, 2))
        self.assertFalse(Ratio(4, 2) != 2)
        self.assertTrue(Ratio(1, 2) != Ratio(1, 3) and Ratio(1, 2) != Ratio(3, 2))
        self.assertTrue(Ratio(1, 2) != 1 and 1 != Ratio(1, 2) and Ratio(0) == 0)

    def test_equal_to_nothing_else(self):
        for number in (Ratio(1), Ratio(0), Ratio(1, 2)):
            for value in any_values():
                if is_plain_integer(value) or isinstance(value, Ratio):
                    continue
                self.assertFalse(number == value)
                self.assertFalse(value == number)
        self.assertFalse(Ratio(1) == True)  # noqa: E712
        self.assertFalse(False == Ratio(0))  # noqa: E712
        self.assertFalse(Ratio(1, 2) == 0.5)
        self.assertFalse(Ratio(2) == Space([2]))

    def test_sums_differences_products(self):
        for one in WORTHS:
            for other in WORTHS[::3]:
                self.assertEqual(worth(ratio(one) + ratio(other)), one + other)
                self.assertEqual(worth(ratio(one) - ratio(other)), one - other)
                self.assertEqual(worth(ratio(one) * ratio(other)), one * other)

    def test_integers_on_either_side(self):
        for one in WORTHS:
            for integer in (-5, -1, 0, 1, 4, 10 ** 60):
                told = [
                    ratio(one) + integer, integer + ratio(one), ratio(one) - integer, integer - ratio(one),
                    ratio(one) * integer, integer * ratio(one),
                ]
                wanted = [one + integer, one + integer, one - integer, integer - one, one * integer, one * integer]
                for number, fraction in zip(told, wanted):
                    self.assert_terms(number, fraction.numerator, fraction.denominator)

    def test_other_side_of_zero(self):
        for one in WORTHS:
            self.assert_terms(-ratio(one), (-one).numerator, (-one).denominator)

    def test_over(self):
        for one in WORTHS:
            for other in WORTHS:
                if other == 0:
                    with self.assertRaises(ByZero):
                        ratio(one).over(ratio(other))
                else:
                    told = ratio(one).over(number=ratio(other))
                    self.assert_terms(told, (one / other).numerator, (one / other).denominator)
        self.assert_terms(Ratio(1, 2).over(-3), -1, 6)
        with self.assertRaises(ByZero):
            Ratio(1, 2).over(0)

    def test_below(self):
        for one in WORTHS:
            for other in WORTHS:
                self.assertIs(ratio(one).below(number=ratio(other)), one < other)
        self.assertIs(Ratio(1, 2).below(1), True)
        self.assertIs(Ratio(1, 2).below(0), False)
        self.assertIs(Ratio(3).below(3), False)

    def test_over_and_below_of_no_number(self):
        for value in any_values():
            if is_plain_integer(value) or isinstance(value, Ratio):
                continue
            for method in (Ratio(1, 2).over, Ratio(0).over, Ratio(1, 2).below):
                with self.assertRaises(InvalidNumber) as caught:
                    method(value)
                self.assertIs(caught.exception.given, value)

    def test_reckoning_changes_nothing(self):
        one, other = Ratio(1, 2), Ratio(-4, 6)
        [one + other, one - other, one * other, -one, one.over(other), one.below(other), str(one), one == other]
        [total([one, other]), greatest([one, other]), smallest((one, other)), as_ratio(one)]
        self.assertEqual([one.top, one.bottom, other.top, other.bottom], [1, 2, -2, 3])


class TestLines(unittest.TestCase):
    def test_line(self):
        self.assertEqual(str(Ratio(-3, 2)), "-3/2")
        self.assertEqual(str(Ratio(3, 2)), "3/2")
        self.assertEqual(str(Ratio(4, -2)), "-2")
        self.assertEqual(str(Ratio(0, 5)), "0")
        self.assertEqual(str(Ratio(10 ** 60, 7)), "1" + "0" * 60 + "/7")

    def test_there_and_back(self):
        for one in WORTHS + [Fraction(10 ** 3000, 7), Fraction(-1, 10 ** 3000)]:
            number = read_number(str(ratio(one)))
            self.assertIs(type(number), Ratio)
            self.assertEqual(worth(number), one)
        self.assertEqual(read_number(line="-7/3"), Ratio(-7, 3))

    def test_lines_of_none(self):
        lines = [
            "", "-", "/", "1/", "/2", "2/4", "3/1", "1/0", "0/1", "0/0", "-0", "+1", "--1", "1/-2", "-1/-2", "1/+2",
            "01", "-01", "1/02", "00", " 1", "1 ", "1/ 2", "1 /2", "1\n", "\n1", "1_0", "1/2/3", "1.0", "1e1", "0x1",
            "\u0661", "1/\u0662", "\u00b2", "1/\u00b2", "one", "9/3", "-2/2", "1//2", "\uff11", "1,0",
        ]
        for line in lines + [value for value in any_values() if value not in ("0", "9" * 4000)]:
            with self.assertRaises(InvalidLine) as caught:
                read_number(line)
            self.assertIs(caught.exception.given, line)

    def test_each_line_with_one_sign_otherwise(self):
        signs = "0123456789-+/ ._"
        for line in ("-7/30", "12", "1/2"):
            for at in range(len(line) + 1):
                for changed in [line[:at] + sign + line[at + 1:] for sign in signs] + [line[:at] + line[at + 1:]]:
                    try:
                        number = read_number(changed)
                    except InvalidLine:
                        self.assertFalse(is_line(changed), changed)
                    else:
                        self.assertTrue(is_line(changed), changed)
                        self.assertEqual(worth(number), Fraction(changed))


def is_line(line):
    try:
        return str(Fraction(line)) == line
    except (ValueError, ZeroDivisionError):
        return False


class TestNumbers(unittest.TestCase):
    def test_is_number(self):
        for value in any_values():
            self.assertIs(is_number(value), type(value) in (int, Ratio))
        self.assertIs(is_number(value=Ratio(1, 2)), True)
        self.assertIs(is_number(True), False)

    def test_is_amount(self):
        self.assertEqual([is_amount(one) for one in (0, 1, Ratio(1, 2), Ratio(0))], [True] * 4)
        self.assertEqual([is_amount(one) for one in (-1, Ratio(-1, 2), False, None, "1")], [False] * 5)

    def test_as_ratio(self):
        for number in (Ratio(-1, 2), 3, 0, -(10 ** 60)):
            told = as_ratio(value=number)
            self.assertIs(type(told), Ratio)
            self.assertEqual(told, number)
        for value in any_values():
            if type(value) not in (int, Ratio):
                with self.assertRaises(InvalidNumber) as caught:
                    as_ratio(value)
                self.assertIs(caught.exception.given, value)

    def test_total(self):
        for numbers in ([], ()):
            self.assertEqual((total(numbers).top, total(numbers).bottom), (0, 1))
        self.assertEqual(str(total([Ratio(1, 2), 1, Ratio(1, 2)])), "2")
        self.assertEqual(str(total(numbers=(Ratio(1, 2), Ratio(1, 3), -1))), "-1/6")
        self.assertIs(type(total([1, 2])), Ratio)

    def test_greatest_and_smallest(self):
        numbers = [Ratio(1, 2), Ratio(1, 3), Ratio(-5, 2), -2, Ratio(3, 4)]
        self.assertEqual([str(greatest(numbers)), str(smallest(numbers))], ["3/4", "-5/2"])
        self.assertEqual([str(greatest(numbers=tuple(numbers))), str(smallest(numbers=(3,)))], ["3/4", "3"])
        self.assertEqual([type(greatest([1, 2])), type(smallest([1, 2]))], [Ratio, Ratio])

    def test_many_lists(self):
        chance = random.Random(5)
        for _ in range(200):
            drawn = [Fraction(chance.randrange(-9, 10), chance.randrange(1, 9)) for _ in range(chance.randrange(1, 6))]
            numbers = [ratio(one) if one.denominator > 1 or chance.random() < 0.5 else one.numerator for one in drawn]
            kept = list(numbers)
            self.assertEqual(worth(total(numbers)), sum(drawn))
            self.assertEqual(worth(greatest(numbers)), max(drawn))
            self.assertEqual(worth(smallest(numbers)), min(drawn))
            tops, bottom = on_one_bottom(numbers)
            self.assertEqual([Fraction(top, bottom) for top in tops], drawn)
            self.assertTrue(all(one is other for one, other in zip(numbers, kept)))

    def test_examples(self):
        half = Ratio(-3, -6)
        self.assertEqual(
            [half.top, half.bottom, str(half - 2), str(half.over(Ratio(3, 4))), half.below(1), 1 - half == half],
            [1, 2, '-3/2', '2/3', True, True])
        self.assertEqual(
            [str(total([half, 1, half])), str(smallest([Ratio(1, 3), half])), str(read_number("-7/3"))],
            ['2', '1/3', '-7/3'])
        with self.assertRaises(InvalidLine) as caught:
            read_number("2/4")
        self.assertEqual(caught.exception.given, "2/4")


if __name__ == "__main__":
    unittest.main()
