"""How the tests ask: twice, with lists and with tuples, and with what was told changed in between."""

from endlots.errors import (
    InvalidSpace, InvalidStore, InvalidText, MayGoOn, MayStay, NoCommon, NotBrought, NotKept, TooMany, TwoLots,
)
from endlots.ratios import Ratio
from endlots.spaces import Space
from odd import ErrorCase

SKIP = ("skip",)
TWO, EIGHT = Space([2]), Space([2, 2, 2])
FORK = ("either", SKIP, ("set", 0, [1, 1]))
COIN = ("draw", 0, (0, 1), (1, 2))
FREE = ("while", [0], FORK)
HEAD, TAKE = ((), 0), ((0,), 0)
WRONG_SPACES = [None, [2], (2,), "2", 2, SKIP, True]
WRONG_TEXTS = [None, [], ("hole",), ("stop",), ["skip"], ("set", 0, [0, 2]), ("while", [2], SKIP), ("either", SKIP)]
WRONG_STORES = [None, True, False, -1, 2, "0", [0], (0,), Ratio(0), Ratio(1), {}, TWO]


def frozen(value):
    """What a value is made of, with the kinds of all that is in it."""
    if isinstance(value, (list, tuple)):
        return (type(value).__name__, tuple(frozen(item) for item in value))
    if isinstance(value, dict):
        return ("dict", tuple((key, frozen(item)) for key, item in value.items()))
    if isinstance(value, Ratio):
        return ("Ratio", value.top, value.bottom)
    if isinstance(value, Space):
        return ("Space", frozen({key: item for key, item in vars(value).items()}))
    if callable(value):
        return "a function"
    return (type(value).__name__, value)


def with_tuples(value):
    if isinstance(value, (list, tuple)):
        return tuple(with_tuples(item) for item in value)
    return value


def lists_in(value):
    """The identities of all lists in a value."""
    found = [id(value)] if isinstance(value, list) else []
    if isinstance(value, (list, tuple)):
        for item in value:
            found += lists_in(item)
    return found


def empty(value):
    """Change all lists in a value."""
    if isinstance(value, (list, tuple)):
        for item in value:
            empty(item)
    if isinstance(value, list):
        value.append("changed")
        value.reverse()


def outcome_of(function, arguments):
    """What a function tells: a value, or an error with what was worked out for it."""
    try:
        return function(*arguments)
    except (MayGoOn, MayStay, NoCommon, NotBrought, NotKept, TwoLots) as error:
        return (type(error).__name__, *[item for _, item in sorted(vars(error).items())])


class AskCase(ErrorCase):
    """Tests that ask functions of the package as the document allows it [9]."""

    def ask(self, function, *arguments):
        """What a function tells, which has to be the same for equal arguments, and new on each call."""
        before = frozen(arguments)
        told = outcome_of(function, arguments)
        kept = frozen(told)
        self.assertEqual(frozen(arguments), before)
        lists = lists_in(told)
        self.assertEqual(len(set(lists)), len(lists), "a list at two places of one result")
        self.assertFalse(set(lists) & set(lists_in(arguments)), "a list that was passed")
        empty(told)
        self.assertEqual(frozen(arguments), before)
        again = outcome_of(function, arguments)
        self.assertEqual(frozen(again), kept)
        tupled = [with_tuples(argument) for argument in arguments]
        self.assertEqual(with_tuples(frozen(outcome_of(function, tupled))), with_tuples(kept))
        return again

    def assert_too_many(self, count, function, *arguments):
        with self.assertRaises(TooMany) as caught:
            function(*arguments)
        self.assertEqual(caught.exception.count, count)
        self.assertIs(type(caught.exception.count), int)

    def assert_first_errors(self, function, *more):
        """A wrong space, text or store is told in this order, ahead of all that comes behind them and of TooMany."""
        for space in WRONG_SPACES:
            self.assert_raises_with(InvalidSpace, space, function, space, None, None, *more)
        for text in WRONG_TEXTS:
            self.assert_raises_with(InvalidText, text, function, TWO, text, None, *more)
        for store in WRONG_STORES:
            self.assert_raises_with(InvalidStore, store, function, TWO, ("either", SKIP, SKIP), store, *more)
        self.assert_raises_with(InvalidStore, 8, function, EIGHT, with_rows(72), 8, *more)

    def assert_numbers(self, numbers):
        """Numbers that are told are Ratios."""
        self.assertTrue(all(type(number) is Ratio for number in numbers), numbers)


def spoilt(value, odd=(None, True, "0")):
    """Values with one thing changed at any place of a value: other kinds, other numbers, one more or one less."""
    found = list(odd) + [[value], (value,)]
    if isinstance(value, int) and not isinstance(value, bool):
        found += [value + 1, value - 1, -value - 1, Ratio(value), Ratio(2 * value + 1, 2), str(value), value == 1]
    if isinstance(value, Ratio):
        found += [value + 1, value - Ratio(1, 10 ** 9), -value - 1, str(value)]
    if isinstance(value, str):
        found += ["", value + " ", value.upper(), [value]]
    if isinstance(value, (list, tuple)):
        kind = type(value)
        other = tuple if kind is list else list
        items = list(value)
        found += [other(items), kind(items + items[-1:]), kind(items + [None]), kind(items[::-1]), dict(enumerate(items))]
        found += [kind(items[:at] + items[at + 1:]) for at in range(len(items))]
        for at, item in enumerate(items):
            found += [kind(items[:at] + [one] + items[at + 1:]) for one in spoilt(item, odd)]
    return found


def counted_eithers(count, last=SKIP):
    """A text of which so many eithers are met one behind the other."""
    text = last
    for _ in range(count):
        text = ("then", ("either", SKIP, SKIP), text)
    return text


def nested_eithers(count, last=SKIP):
    """A text of which so many eithers are met one within the other, and the last text within all of them."""
    text = last
    for _ in range(count):
        text = ("either", text, SKIP)
    return text


def with_rows(count):
    """A text of the space with the sizes 2, 2, 2 of which just so many rows are met from each store, 32 of them or more."""
    whole, ahead = divmod(count - 8, 8)
    text = SKIP
    for at in range(whole):
        text = ("then", ("draw", at % 3, (0, 1), (1, 1)), text)
    text = ("while", list(range(8)), text)
    for _ in range(ahead):
        text = ("then", ("draw", 0, (0, 1), (1, 1)), ("then", ("set", 0, [0] * 8), text))
    return text
