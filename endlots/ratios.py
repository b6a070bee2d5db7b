"""Ratios: exact quotients of integers, and lists of numbers."""

from math import gcd, lcm

from endlots.errors import ByZero, InvalidLine, InvalidNumber
from endlots.shapes import is_digits, is_integer


class Ratio:
    """The quotient of two integers, in lowest terms and with a bottom above 0."""

    def __init__(self, top, bottom=1):
        if not is_integer(top):
            raise InvalidNumber(top)
        if not is_integer(bottom):
            raise InvalidNumber(bottom)
        if bottom == 0:
            raise ByZero()
        shared = gcd(top, bottom)
        if bottom < 0:
            shared = -shared
        self.top = top // shared
        self.bottom = bottom // shared

    def __eq__(self, other):
        if not is_number(other):
            return False
        number = as_ratio(other)
        return self.top == number.top and self.bottom == number.bottom

    def __str__(self):
        if self.bottom == 1:
            return str(self.top)
        return f"{self.top}/{self.bottom}"

    def __neg__(self):
        return Ratio(-self.top, self.bottom)

    def __add__(self, other):
        if not is_number(other):
            return NotImplemented
        number = as_ratio(other)
        return Ratio(self.top * number.bottom + number.top * self.bottom, self.bottom * number.bottom)

    def __radd__(self, other):
        return self + other

    def __sub__(self, other):
        if not is_number(other):
            return NotImplemented
        number = as_ratio(other)
        return Ratio(self.top * number.bottom - number.top * self.bottom, self.bottom * number.bottom)

    def __rsub__(self, other):
        return -self + other

    def __mul__(self, other):
        if not is_number(other):
            return NotImplemented
        number = as_ratio(other)
        return Ratio(self.top * number.top, self.bottom * number.bottom)

    def __rmul__(self, other):
        return self * other

    def over(self, number):
        """The quotient of this Ratio and a number."""
        divisor = as_ratio(number)
        # For 0 this Ratio would have the bottom 0, and raises ByZero.
        return Ratio(self.top * divisor.bottom, self.bottom * divisor.top)

    def below(self, number):
        """Tell whether this Ratio is less than a number."""
        bound = as_ratio(number)
        return self.top * bound.bottom < bound.top * self.bottom


def is_number(value):
    """Tell whether any value is a number: an integer or a Ratio."""
    return isinstance(value, Ratio) or is_integer(value)


def as_ratio(value):
    """The Ratio that equals a number."""
    if isinstance(value, Ratio):
        return value
    return Ratio(value)


def is_amount(value):
    """Tell whether any value is a number from 0 on."""
    return is_number(value) and as_ratio(value).top >= 0


def read_number(line):
    """The Ratio with this line."""
    if not isinstance(line, str):
        raise InvalidLine(line)
    top, slash, bottom = line.partition("/")
    if slash == "":
        bottom = "1"
    if not is_digits(top.removeprefix("-")) or not is_digits(bottom) or int(bottom) == 0:
        raise InvalidLine(line)
    number = Ratio(int(top), int(bottom))
    # What reads well may still be another line of the same number, such as 2/4 or -0.
    if str(number) != line:
        raise InvalidLine(line)
    return number


def on_one_bottom(numbers):
    """A tuple (tops, bottom): the least common bottom of numbers, and what each has as its top over it."""
    ratios = [as_ratio(number) for number in numbers]
    bottom = 1
    for ratio in ratios:
        bottom = lcm(bottom, ratio.bottom)
    return ([ratio.top * (bottom // ratio.bottom) for ratio in ratios], bottom)


def total(numbers):
    """The sum of numbers, 0 for none."""
    tops, bottom = on_one_bottom(numbers)
    return Ratio(sum(tops), bottom)


def greatest(numbers):
    """The greatest one of at least one number."""
    tops, bottom = on_one_bottom(numbers)
    return Ratio(max(tops), bottom)


def smallest(numbers):
    """The least one of at least one number."""
    tops, bottom = on_one_bottom(numbers)
    return Ratio(min(tops), bottom)
