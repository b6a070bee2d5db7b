"""Tests of endlots.lots: [3] and [31] to [33], with the head of their stage."""

import random
import unittest
from fractions import Fraction
from math import gcd

from endlots.errors import (
    InvalidLot, InvalidLots, InvalidOutcome, InvalidPayoff, InvalidSpace, InvalidWeights,
)
from endlots.lots import as_lot, blend, is_lot, mean, share, support, sure
from endlots.ratios import Ratio
from endlots.spaces import Space
from odd import ALL_SIZES, ErrorCase, any_values

NO_SPACES = [None, True, 2, "2", [2], (2,), {}, Ratio(2), {"sizes": (2,)}, ""]

# Each of these is no lot of any space.
NO_LOTS = [
    None, True, 1, "100", [], (), {}, (1,), (1, 0), (0, 1), (0, 0, 0), (2, 0, 2), (2, 4, 6), (-1, 1, 1), (1, -1, 1),
    [1, 0, 0], (True, 0, 0), (1, False, 0), (1, 0, None), (1, 0, "1"), (Ratio(1), 0, 0), (1, Ratio(1, 2), 0),
    (1, [0], 0), ((1, 0, 0),), [(1, 0, 0)], (1,) * 10, (1,) + (0,) * 9, (0, 0, 0, 5), Space([2]), {0: 1, 1: 0, 2: 0},
    (0, 0, -1), (10 ** 60, 0, 10 ** 59),
]


def drawn_lot(chance, count, digits=2):
    """A lot, as far from even as chance will have it, with noughts in it."""
    while True:
        drawn = [chance.randrange(10 ** digits) if chance.random() < 0.7 else 0 for _ in range(count)]
        shared = gcd(*drawn)
        if shared > 0:
            return tuple(one // shared for one in drawn)


def shares_of(lot):
    return [Fraction(one, sum(lot)) for one in lot]


def fraction(number):
    return Fraction(number.top, number.bottom) if isinstance(number, Ratio) else Fraction(number)


class TestLots(ErrorCase):
    def test_is_lot(self):
        space = Space([2])
        for value in [(1, 0, 0), (0, 0, 1), (1, 1, 1), (6, 10, 15), (10 ** 60, 10 ** 60 + 1, 0), (0, 10 ** 60, 1)]:
            self.assertIs(is_lot(space, value), True, value)
            self.assertIs(is_lot(Space([3]), value), False, value)
        for value in NO_LOTS + any_values():
            self.assertIs(is_lot(space, value), False, value)
        self.assertIs(is_lot(space=space, value=(0, 1, 0, 0)), False)
        self.assertIs(is_lot(Space([2, 2, 2]), (0,) * 8 + (1,)), True)

    def test_no_space_comes_first(self):
        for value in NO_SPACES:
            self.assert_raises_with(InvalidSpace, value, is_lot, value, None)
            self.assert_raises_with(InvalidSpace, value, as_lot, value, None)
            self.assert_raises_with(InvalidSpace, value, sure, value, None)
        for value in any_values():
            if not isinstance(value, Space):
                self.assert_raises_with(InvalidSpace, value, is_lot, value, (1, 0, 0))

    def test_as_lot(self):
        space = Space([2])
        self.assertEqual(as_lot(space, [2, 0, 4]), (1, 0, 2))
        self.assertEqual(as_lot(space, (Ratio(1, 2), 0, Ratio(1, 3))), (3, 0, 2))
        self.assertEqual(as_lot(space=space, weights=[0, 0, Ratio(5, 7)]), (0, 0, 1))
        self.assertEqual(as_lot(space, [Ratio(0), Ratio(6), Ratio(3)]), (0, 2, 1))
        self.assertEqual(as_lot(space, [10 ** 59, 0, 10 ** 59 * 3]), (1, 0, 3))
        self.assertIs(type(as_lot(space, [1, 2, 3])), tuple)

    def test_as_lot_of_many(self):
        chance = random.Random(1)
        for sizes in ALL_SIZES:
            space = Space(sizes)
            for digits in (1, 9, 60):
                drawn = [Fraction(chance.randrange(10 ** digits), chance.randrange(1, 10 ** digits)) for _ in range(len(space))]
                drawn.append(Fraction(1, 3))
                lot = as_lot(space, [Ratio(one.numerator, one.denominator) for one in drawn])
                self.assertTrue(is_lot(space, lot))
                self.assertEqual(shares_of(lot), [one / sum(drawn) for one in drawn])

    def test_wrong_weights(self):
        wrong = [
            [], [1, 1], [1, 1, 1, 1], [0, 0, 0], [Ratio(0), 0, 0], [-1, 1, 1], [Ratio(-1, 2), 1, 1], [True, 0, 0],
            [1, None, 0], [1, "0", 0], "100", {0: 1, 1: 1, 2: 1}, None, 3, [[1], 0, 0], [1, 0, False], (0, 0, 0),
        ]
        for weights in wrong:
            self.assert_raises_with(InvalidWeights, weights, as_lot, Space([2]), weights)
            self.assert_raises_with(InvalidWeights, weights, blend, [(1, 0, 0), (0, 1, 0), (0, 0, 1)], weights)

    def test_sure(self):
        for sizes in ALL_SIZES:
            space = Space(sizes)
            for outcome in range(len(space) + 1):
                lot = sure(space=space, outcome=outcome)
                self.assertTrue(is_lot(space, lot))
                self.assertEqual([at for at, one in enumerate(lot) if one == 1], [outcome])
        for outcome in [-1, 3, True, False, None, "0", Ratio(1), [0], (0,), 10 ** 60]:
            self.assert_raises_with(InvalidOutcome, outcome, sure, Space([2]), outcome)

    def test_share(self):
        self.assertEqual(str(share((1, 0, 2), 2)), "2/3")
        self.assertEqual([str(share(lot=(1, 0, 2), outcome=at)) for at in range(3)], ["1/3", "0", "2/3"])
        self.assertEqual(str(share((0,) * 8 + (1,), 8)), "1")
        self.assertIs(type(share((1, 0, 0), 0)), Ratio)

    def test_wrong_outcome(self):
        for outcome in [-1, 3, True, False, None, "0", Ratio(1), [0], (0,)]:
            self.assert_raises_with(InvalidOutcome, outcome, share, (1, 0, 2), outcome)
        self.assert_raises_with(InvalidOutcome, 4, share, (1, 0, 2, 1), 4)
        self.assertEqual(str(share((1, 0, 2, 1), 3)), "1/4")

    def test_wrong_lot_comes_first(self):
        for lot in NO_LOTS + any_values():
            self.assert_raises_with(InvalidLot, lot, share, lot, None)
            self.assert_raises_with(InvalidLot, lot, support, lot)
            self.assert_raises_with(InvalidLot, lot, mean, lot, None)
            self.assert_raises_with(InvalidLot, lot, mean, lot, [1, 1, 1])

    def test_support(self):
        self.assertEqual(support((1, 0, 2)), [0, 2])
        self.assertEqual(support(lot=(0, 0, 1)), [2])
        self.assertEqual(support((1,) * 9), list(range(9)))
        told = support((1, 0, 2))
        told.append(7)
        self.assertEqual(support((1, 0, 2)), [0, 2])

    def test_mean(self):
        self.assertEqual(str(mean((1, 0, 2), [6, 1, -1])), "4/3")
        self.assertEqual(str(mean(lot=(1, 1, 2), payoff=(Ratio(1, 2), Ratio(1, 3), Ratio(-1)))), "-7/24")
        self.assertEqual(mean((0, 1, 0), [5, 0, 5]), 0)
        self.assertIs(type(mean((0, 1, 0), [5, 0, 5])), Ratio)
        chance = random.Random(2)
        for _ in range(100):
            count = chance.randrange(3, 10)
            lot = drawn_lot(chance, count, chance.choice((1, 2, 60)))
            drawn = [Fraction(chance.randrange(-99, 99), chance.randrange(1, 9)) for _ in range(count)]
            told = mean(lot, [Ratio(one.numerator, one.denominator) for one in drawn])
            self.assertEqual(fraction(told), sum(one * each for one, each in zip(shares_of(lot), drawn)))

    def test_wrong_payoff(self):
        wrong = [
            [], [1, 1], [1, 1, 1, 1], [True, 1, 1], [1, None, 1], [1, 1, "1"], "111", None, 3, {0: 1, 1: 1, 2: 1},
            [[1], 1, 1], (1, 1, False), [1, 1],
        ]
        for payoff in wrong:
            self.assert_raises_with(InvalidPayoff, payoff, mean, (1, 0, 2), payoff)

    def test_blend(self):
        self.assertEqual(blend([(1, 0, 0), (0, 1, 1)], [1, 2]), (1, 1, 1))
        self.assertEqual(blend([(1, 0, 0)], [Ratio(2, 7)]), (1, 0, 0))
        self.assertEqual(blend(lots=((1, 0, 0), (0, 1, 1)), weights=(Ratio(1, 2), Ratio(1, 2))), (2, 1, 1))
        self.assertEqual(blend([(1, 0, 0), (1, 0, 0), (0, 0, 1)], [1, 1, 2]), (1, 0, 1))
        self.assertEqual(blend([(1, 0, 0), (1, 3, 0)], [0, 1]), (1, 3, 0))
        # Lots blend by their shares, not by their integers.
        self.assertEqual(blend([(1, 0, 0), (0, 1, 9)], [1, 1]), (10, 1, 9))

    def test_many_blends(self):
        chance = random.Random(3)
        for _ in range(100):
            count, many = chance.randrange(3, 10), chance.choice((1, 2, 5, 64))
            lots = [drawn_lot(chance, count, chance.choice((1, 2, 60))) for _ in range(many)]
            drawn = [Fraction(chance.randrange(10 ** 9), chance.randrange(1, 9)) for _ in lots]
            drawn[0] += 1
            told = blend(lots, [Ratio(one.numerator, one.denominator) for one in drawn])
            wanted = [
                sum(one * shares_of(lot)[at] for one, lot in zip(drawn, lots)) / sum(drawn) for at in range(count)]
            self.assertIs(type(told), tuple)
            self.assertEqual(gcd(*told), 1)
            self.assertEqual(shares_of(told), wanted)

    def test_wrong_lots(self):
        good = (1, 0, 0)
        wrong = [[lot] for lot in NO_LOTS] + [[good, lot] for lot in NO_LOTS] + [
            [], (), None, good, "lots", {good: 1}, [good, (1, 0, 0, 0)], [(1, 0, 0, 0), good], [good] * 65, True, 1,
        ]
        for lots in wrong:
            self.assert_raises_with(InvalidLots, lots, blend, lots, None)
        self.assertEqual(blend([good] * 64, [1] * 64), good)

    def test_wrong_weights_of_a_blend(self):
        for weights in [[1], [1, 1, 1], [0, 0], [1, -1], [1, True], None, "11", [1, None], (), [Ratio(0), 0]]:
            self.assert_raises_with(InvalidWeights, weights, blend, [(1, 0, 0), (0, 1, 0)], weights)

    def test_arguments_stay_and_answers_are_new(self):
        lots, weights, payoff = [(1, 0, 0), (0, 1, 1)], [1, Ratio(2)], [1, Ratio(1, 2), 0]
        kept = [list(lots), list(weights), list(payoff)]
        for _ in range(2):
            self.assertEqual(blend(lots, weights), (1, 1, 1))
            self.assertEqual(str(mean((1, 0, 2), payoff)), "1/3")
            self.assertEqual([lots, weights, payoff], kept)
        space = Space([2])
        self.assertEqual(as_lot(space, weights + [0]), (1, 2, 0))
        self.assertEqual(weights, [1, 2])

    def test_examples(self):
        space = Space([2])
        self.assertEqual(
            [as_lot(space, [2, 0, 4]), as_lot(space, [Ratio(1, 2), 0, Ratio(1, 3)]), sure(space, 2),
             is_lot(space, (2, 0, 4))],
            [(1, 0, 2), (3, 0, 2), (0, 0, 1), False])
        self.assertEqual(
            [str(share((1, 0, 2), 2)), str(mean((1, 0, 2), [6, 1, -1])), support((1, 0, 2)),
             blend([(1, 0, 0), (0, 1, 1)], [1, 2])],
            ['2/3', '4/3', [0, 2], (1, 1, 1)])


if __name__ == "__main__":
    unittest.main()
