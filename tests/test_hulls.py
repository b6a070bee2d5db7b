"""Tests of endlots.hulls: [5] and [34] to [36], with the head of their stage."""

import random
import unittest
from itertools import combinations

from endlots.errors import InvalidLot, InvalidLots, Outside
from endlots.hulls import Hull, corners, distance, is_distance, is_outside, is_shares_in, shares_in
from endlots.lots import blend
from endlots.ratios import Ratio
from odd import ErrorCase, any_values
from test_lots import NO_LOTS, drawn_lot, fraction, shares_of


def mean_of(lot, payoff):
    return sum(one * fraction(number) for one, number in zip(shares_of(lot), payoff))


def blended_shares(lots, shares):
    return [
        sum(fraction(number) * shares_of(lot)[at] for number, lot in zip(shares, lots)) for at in range(len(lots[0]))]


def gap(lots, lot, payoff):
    return mean_of(lot, payoff) - max(mean_of(other, payoff) for other in lots)


def is_in_triangle(points, point):
    """Whether the point is a blend of at most three points in the plane, by the signs of areas."""
    def area(one, two, three):
        return (two[0] - one[0]) * (three[1] - one[1]) - (two[1] - one[1]) * (three[0] - one[0])

    if len(points) == 1:
        return points[0] == point
    if len(points) == 2:
        one, two = points
        between = all(min(one[at], two[at]) <= point[at] <= max(one[at], two[at]) for at in (0, 1))
        return area(one, two, point) == 0 and between
    one, two, three = points
    whole = area(one, two, three)
    if whole == 0:
        return any(is_in_triangle(pair, point) for pair in combinations(points, 2))
    return all(part * whole >= 0 for part in (area(one, two, point), area(two, three, point), area(three, one, point)))


def plain_corners(lots):
    """The corners of lots of three outcomes, by trying all triples."""
    distinct = sorted(set(lots))
    found = []
    for lot in distinct:
        others = [shares_of(other)[:2] for other in distinct if other != lot]
        groups = [group for many in (1, 2, 3) for group in combinations(others, many)]
        if not any(is_in_triangle(group, shares_of(lot)[:2]) for group in groups):
            found.append(lot)
    return found


class HullCase(ErrorCase):
    def assert_shares(self, lots, shares):
        self.assertIs(type(shares), list)
        self.assertEqual(len(shares), len(lots))
        self.assertTrue(all(type(number) is Ratio and number.top >= 0 for number in shares))
        self.assertEqual(sum(fraction(number) for number in shares), 1)

    def assert_inside(self, lots, lot):
        shares = shares_in(lots, lot)
        self.assert_shares(lots, shares)
        self.assertEqual(blended_shares(lots, shares), shares_of(lot))
        self.assertIs(is_shares_in(lots, lot, shares), True)
        self.assertIs(is_shares_in(lots, lot, tuple(shares)), True)

    def assert_outside(self, lots, lot):
        with self.assertRaises(Outside) as caught:
            shares_in(lots, lot)
        payoff = caught.exception.payoff
        self.assertIs(type(payoff), list)
        self.assertEqual([type(integer) for integer in payoff], [int] * len(lot))
        self.assertGreater(gap(lots, lot, payoff), 0)
        self.assertIs(is_outside(lots, lot, payoff), True)
        self.assertIs(is_outside(lots, lot, tuple(payoff)), True)

    def assert_distance(self, lots, lot):
        told = distance(lots, lot)
        self.assertIs(type(told), tuple)
        number, shares, payoff = told
        self.assertIs(type(number), Ratio)
        self.assert_shares(lots, shares)
        self.assertIs(type(payoff), list)
        self.assertEqual([type(one) for one in payoff], [Ratio] * len(lot))
        self.assertTrue(all(0 <= fraction(one) <= 1 for one in payoff))
        self.assertEqual(gap(lots, lot, payoff), fraction(number))
        pairs = zip(shares_of(lot), blended_shares(lots, shares))
        self.assertEqual(sum(max(one - other, 0) for one, other in pairs), fraction(number))
        self.assertIs(is_distance(lots, lot, told), True)
        self.assertIs(is_distance(lots, lot, (number, tuple(shares), tuple(payoff))), True)
        return number


class TestCorners(HullCase):
    def test_small(self):
        self.assertEqual(corners([(1, 1, 0), (0, 1, 0), (1, 0, 0), (0, 1, 0)]), [(0, 1, 0), (1, 0, 0)])
        self.assertEqual(corners([(1, 1, 1)]), [(1, 1, 1)])
        self.assertEqual(corners(lots=((1, 1, 1), (1, 1, 1))), [(1, 1, 1)])
        self.assertEqual(corners([(1, 1, 1), (1, 0, 0), (0, 1, 0)]), [(0, 1, 0), (1, 0, 0), (1, 1, 1)])
        self.assertEqual(corners([(1, 1, 2), (1, 0, 0), (0, 1, 0), (0, 0, 1)]), [(0, 0, 1), (0, 1, 0), (1, 0, 0)])
        # Three in a row, of which the middle one is no corner, however the integers stand to one another.
        self.assertEqual(corners([(99, 1, 0), (1, 99, 0), (1, 1, 0)]), [(1, 99, 0), (99, 1, 0)])
        self.assertEqual(corners([(2, 1, 0), (1, 0, 0), (1, 2, 0), (1, 1, 0), (0, 1, 0)]), [(0, 1, 0), (1, 0, 0)])

    def test_ascending_as_tuples(self):
        lots = [(9, 1, 0), (1, 0, 0), (10, 0, 1), (2, 9, 0), (0, 0, 1)]
        self.assertEqual(corners(lots), sorted(corners(lots)))

    def test_three_outcomes_by_triples(self):
        chance = random.Random(11)
        for _ in range(40):
            lots = [drawn_lot(chance, 3, 1) for _ in range(chance.randrange(1, 9))]
            lots = lots + [chance.choice(lots) for _ in range(2)]
            chance.shuffle(lots)
            self.assertEqual(corners(lots), plain_corners(lots))

    def test_with_blends_added(self):
        chance = random.Random(12)
        for count in range(3, 10):
            for many, digits in ((1, 1), (3, 2), (12, 1), (12, 60)):
                lots = [drawn_lot(chance, count, digits) for _ in range(many)]
                mixed = [blend(lots, [chance.randrange(1, 5) for _ in lots]) for _ in range(3)]
                told = corners(lots)
                self.assertEqual(corners(lots + lots[:1] + mixed), told if len(set(lots)) > 1 else sorted(set(lots)))
                self.assertTrue(set(told) <= set(lots))
                for lot in lots:
                    self.assert_inside(told, lot)
                for lot in told:
                    others = [other for other in told if other != lot]
                    if others:
                        self.assert_outside(others, lot)

    def test_sixty_four(self):
        chance = random.Random(13)
        lots = [drawn_lot(chance, 9, 60) for _ in range(64)]
        told = corners(lots)
        self.assertEqual(told, corners(list(reversed(lots))))
        inner = [lot for lot in lots if lot not in told]
        for lot in inner[:3] + [blend(lots, [1] * 64)]:
            self.assert_inside(told, lot)
        for lot in told[:5]:
            self.assert_outside([other for other in lots if other != lot], lot)

    def test_sure_lots(self):
        for count in range(3, 10):
            units = [tuple(int(at == one) for at in range(count)) for one in range(count)]
            told = corners([(1,) * count] + units + [tuple(range(1, count + 1))])
            self.assertEqual(told, sorted(units))


class TestShares(HullCase):
    def test_inside(self):
        self.assertEqual([str(number) for number in shares_in([(1, 0, 0), (0, 1, 1)], (2, 1, 1))], ["1/2", "1/2"])
        self.assert_inside([(1, 1, 1)], (1, 1, 1))
        self.assert_inside([(1, 1, 1)] * 64, (1, 1, 1))
        self.assert_inside([(1, 0, 0), (0, 1, 0), (0, 0, 1), (1, 1, 1)], (1, 1, 1))
        self.assert_inside(((1, 0, 0), (0, 0, 1)), (1, 0, 0))
        self.assert_inside([(1, 0, 0), (0, 10 ** 60 - 1, 10 ** 60)], (1, 10 ** 60 - 1, 10 ** 60))

    def test_outside(self):
        self.assert_outside([(1, 0, 0), (0, 1, 0)], (0, 0, 1))
        self.assert_outside([(1, 0, 0), (0, 1, 0)], (10 ** 60, 10 ** 60, 1))
        self.assert_outside([(1, 1, 1)], (1, 1, 2))
        self.assert_outside([(1, 1, 1)] * 3, (1, 0, 0))
        self.assert_outside(((1, 1, 1, 1), (1, 0, 0, 0)), (0, 1, 0, 0))

    def test_either_or(self):
        chance = random.Random(21)
        counts = [0, 0]
        for _ in range(150):
            count = chance.randrange(3, 10)
            lots = [drawn_lot(chance, count, chance.choice((1, 2, 60))) for _ in range(chance.choice((1, 3, 9, 20, 64)))]
            lot = drawn_lot(chance, count, 1)
            if chance.random() < 0.5:
                lot = blend(lots, [chance.randrange(4) for _ in lots[1:]] + [1])
            try:
                shares_in(lots, lot)
            except Outside:
                counts[0] += 1
                self.assert_outside(lots, lot)
                self.assertIs(is_shares_in(lots, lot, [Ratio(1, len(lots))] * len(lots)), False)
            else:
                counts[1] += 1
                self.assert_inside(lots, lot)
        self.assertGreater(min(counts), 20)

    def test_equal_answers(self):
        lots, lot = [(1, 0, 0), (0, 1, 0), (0, 0, 1), (1, 1, 1), (1, 1, 0)], (2, 2, 1)
        told = shares_in(lots, lot)
        kept = list(told)
        told.clear()
        self.assertEqual(shares_in(tuple(lots), lot), kept)
        with self.assertRaises(Outside) as caught:
            shares_in(lots[:2], lot)
        payoff = list(caught.exception.payoff)
        caught.exception.payoff.clear()
        with self.assertRaises(Outside) as caught:
            shares_in(tuple(lots[:2]), lot)
        self.assertEqual(caught.exception.payoff, payoff)

    def test_judged_shares(self):
        half, lots, lot = Ratio(1, 2), [(1, 0, 0), (0, 1, 1), (1, 0, 0)], (2, 1, 1)
        for value in ([half, half, 0], (Ratio(0), half, half), [Ratio(1, 4), half, Ratio(1, 4)], [Ratio(1, 3), half, Ratio(1, 6)]):
            self.assertIs(is_shares_in(lots, lot, value), True)
            self.assertIs(is_shares_in(lots=lots, lot=lot, value=value), True)
        wrong = [
            [half, half], [half, half, 0, 0], [1, 1, 0], [half, half, half], [Ratio(1, 4), half, 0], [0, 1, 0],
            [half, half, False], [half, half, None], [half, half, "0"], [1, half, -half], {0: half, 1: half, 2: 0},
            [1, 0, 0], [0, half, [half]], [Ratio(3, 2), half, -1],
        ]
        for value in wrong + any_values():
            self.assertIs(is_shares_in(lots, lot, value), False, value)
        self.assertIs(is_shares_in([(1, 0, 0)], (1, 0, 0), [1]), True)
        self.assertIs(is_shares_in([(1, 0, 0)], (1, 0, 0), [True]), False)
        self.assertIs(is_shares_in([(1, 0, 0)], (0, 1, 0), [1]), False)
        # Shares blend lots by their shares, not by their integers.
        self.assertIs(is_shares_in([(1, 0, 0), (0, 1, 1)], (1, 1, 1), [half, half]), False)
        self.assertIs(is_shares_in([(1, 0, 0), (0, 1, 1)], (1, 1, 1), [Ratio(1, 3), Ratio(2, 3)]), True)

    def test_judged_payoffs(self):
        lots = [(1, 1, 0), (0, 1, 0), (1, 0, 0), (0, 1, 0)]
        self.assertIs(is_outside(lots, (1, 0, 1), [0, 0, 1]), True)
        self.assertIs(is_outside(lots=lots, lot=(1, 0, 1), value=(-5, -5, 1)), True)
        self.assertIs(is_outside(lots, (1, 0, 10 ** 60), [10 ** 60, 0, 10 ** 60 + 1]), True)
        wrong = [
            [0, 0, 0], [1, 1, 1], [1, 0, 1], [0, 1, 0], [0, 0], [0, 0, 1, 0], [0, 0, True], [0, 0, Ratio(1)],
            [0, 0, Ratio(1, 2)], [0, 0, None], [0, 0, "1"], [0, False, 1], {0: 0, 1: 0, 2: 1}, "001", [0, 0, -1],
        ]
        for value in wrong + [one for one in any_values() if one != [0, 0, 1]]:
            self.assertIs(is_outside(lots, (1, 0, 1), value), False, value)
        self.assertIs(is_outside(lots, (1, 1, 0), [1, 1, 0]), False)
        for payoff in ([1, 0, 0], [0, 1, 0], [0, 0, 1], [3, 2, 1], [-1, -1, 0]):
            self.assertIs(is_outside(lots, (2, 1, 0), payoff), False)
        # The mean has to be above that of each of the lots, not just of one.
        self.assertIs(is_outside([(1, 0, 0), (0, 1, 0)], (1, 0, 1), [1, 0, 2]), True)
        self.assertIs(is_outside([(1, 0, 0), (0, 1, 0)], (1, 0, 1), [1, 4, 2]), False)

    def test_spoilt_papers(self):
        chance = random.Random(22)
        for _ in range(60):
            count = chance.randrange(3, 10)
            lots = [drawn_lot(chance, count, 2) for _ in range(chance.randrange(2, 12))]
            lot = blend(lots, [chance.randrange(1, 4) for _ in lots])
            shares = shares_in(lots, lot)
            at = chance.randrange(len(lots))
            for changed in (shares[at] + Ratio(1, 10 ** 9), -1, None, shares[at] - 1, Ratio(-1, 10 ** 9)):
                self.assertIs(is_shares_in(lots, lot, shares[:at] + [changed] + shares[at + 1:]), False)
            self.assertIs(is_shares_in(lots, lot, shares[1:]), False)
            self.assertIs(is_shares_in(lots, lot, shares + [0]), False)
            other = (at + 1) % len(lots)
            moved = list(shares)
            moved[at], moved[other] = moved[other], moved[at]
            self.assertIs(is_shares_in(lots, lot, moved), blended_shares(lots, moved) == shares_of(lot))


class TestDistance(HullCase):
    def test_small(self):
        self.assertEqual(str(distance([(1, 0, 0)], (1, 0, 3))[0]), "3/4")
        self.assertEqual(str(self.assert_distance([(1, 0, 0)], (0, 0, 1))), "1")
        self.assertEqual(str(self.assert_distance([(1, 0, 0), (0, 1, 0)], (1, 1, 0))), "0")
        self.assertEqual(str(self.assert_distance([(1, 1, 1)], (1, 1, 1))), "0")
        self.assertEqual(str(self.assert_distance([(1, 0, 0), (0, 1, 0)], (1, 2, 1))), "1/4")
        self.assertEqual(str(self.assert_distance([(1, 1, 0), (0, 1, 0)], (2, 1, 1))), "1/4")
        self.assertEqual(distance(lots=((1, 0, 0),), lot=(1, 0, 3)), distance([(1, 0, 0)], (1, 0, 3)))

    def test_of_two_lots(self):
        chance = random.Random(31)
        for _ in range(60):
            count = chance.randrange(3, 10)
            one, other = drawn_lot(chance, count, 2), drawn_lot(chance, count, chance.choice((1, 60)))
            told = self.assert_distance([one], other)
            self.assertEqual(told, self.assert_distance([other, other], one))
            wanted = sum(max(left - right, 0) for left, right in zip(shares_of(one), shares_of(other)))
            self.assertEqual(fraction(told), wanted)
            self.assertEqual(str(distance([one], other)[1][0]), "1")

    def test_zero_exactly_inside(self):
        chance = random.Random(32)
        for _ in range(100):
            count = chance.randrange(3, 10)
            lots = [drawn_lot(chance, count, chance.choice((1, 2, 60))) for _ in range(chance.choice((1, 2, 6, 20, 64)))]
            lot = drawn_lot(chance, count, 1)
            if chance.random() < 0.3:
                lot = blend(lots, [chance.randrange(4) for _ in lots[1:]] + [1])
            number = self.assert_distance(lots, lot)
            if number == 0:
                self.assert_inside(lots, lot)
            else:
                self.assert_outside(lots, lot)

    def test_equal_answers(self):
        lots, lot = [(1, 0, 0), (0, 1, 0), (1, 1, 0)], (1, 1, 2)
        told = distance(lots, lot)
        kept = (told[0], list(told[1]), list(told[2]))
        self.assertIsNot(told[1], told[2])
        told[1].clear()
        told[2].append(1)
        self.assertEqual(distance(tuple(lots), lot), kept)
        self.assertEqual(lots, [(1, 0, 0), (0, 1, 0), (1, 1, 0)])

    def test_judged(self):
        half, lots, lot = Ratio(1, 2), [(1, 0, 0), (0, 1, 0)], (1, 1, 2)
        good = [
            (half, [half, half], [0, 0, 1]), (half, (half, half), (0, 0, 1)),
            (half, [half, half], [half - half, Ratio(0), Ratio(1)]), (half, [Ratio(1, 3), Ratio(2, 3)], [0, 0, 1]),
        ]
        wrong = [
            (half, [half, half], [0, 0, 2]), (half, [half, half], [-1, -1, 0]), (half, [half, half], [0, 0, half]),
            (half, [half, half], [1, 1, 1]), (half, [1, 0], [0, 0, 1]), (half, [1, 1], [0, 0, 1]), (half, [half], [0, 0, 1]),
            (half, [half, half], [0, 1]), (half, [half, half], [0, 0, 1, 0]), (half, [half, half]),
            (half, [half, half], [0, 0, 1], 0), [half, [half, half], [0, 0, 1]], (0, [half, half], [0, 0, 1]),
            (Ratio(3, 4), [1, 0], [0, 0, 1]), (1, [half, half], [0, 0, 1]), (None, [half, half], [0, 0, 1]),
            (half, None, [0, 0, 1]), (half, [half, half], None), (half, [half, half], [0, 0, True]),
            (half, [half, False], [0, 0, 1]), (half, {0: half, 1: half}, [0, 0, 1]), (half, [half, half], [False, 0, 1]),
            (half, [half, half, 0], [0, 0, 1]), (half, [Ratio(3, 2), -half], [0, 0, 1]), ("1/2", [half, half], [0, 0, 1]),
        ]
        # The distance from (1, 1, 2) to (1, 0, 0) is 3/4, to each even enough blend 1/2.
        for value in good:
            self.assertIs(is_distance(lots, lot, value), True, value)
            self.assertIs(is_distance(lots=lots, lot=lot, value=value), True, value)
        for value in wrong + any_values():
            self.assertIs(is_distance(lots, lot, value), False, value)
        self.assertIs(is_distance([(1, 0, 0)], (0, 0, 1), (1, [1], [0, 0, 1])), True)
        self.assertIs(is_distance([(1, 0, 0)], (0, 0, 1), (True, [1], [0, 0, 1])), False)
        self.assertIs(is_distance([(1, 0, 0)], (1, 0, 0), (0, [1], [0, 0, 0])), True)
        self.assertIs(is_distance([(1, 0, 0)], (1, 0, 0), (False, [1], [0, 0, 0])), False)

    def test_spoilt(self):
        chance = random.Random(33)
        for _ in range(60):
            count = chance.randrange(3, 10)
            lots = [drawn_lot(chance, count, 2) for _ in range(chance.randrange(1, 9))]
            lot = drawn_lot(chance, count, 2)
            number, shares, payoff = distance(lots, lot)
            self.assertIs(is_distance(lots, lot, (number + Ratio(1, 10 ** 9), shares, payoff)), False)
            self.assertIs(is_distance(lots, lot, (number, shares, payoff + [0])), False)
            at = chance.randrange(len(lots))
            self.assertIs(is_distance(lots, lot, (number, shares[:at] + [shares[at] + 1] + shares[at + 1:], payoff)), False)
            at = chance.randrange(count)
            for one in (payoff[at] + Ratio(1, 7), payoff[at] - Ratio(1, 7), 0, 1):
                changed = payoff[:at] + [one] + payoff[at + 1:]
                wanted = all(0 <= fraction(each) <= 1 for each in changed) and gap(lots, lot, changed) == fraction(number)
                self.assertIs(is_distance(lots, lot, (number, shares, changed)), wanted)


class TestHull(HullCase):
    def test_mixtures_that_are_kept(self):
        """One hull asked for many lots, with lots taken in on the way, tells what a new one tells of each."""
        chance = random.Random(77)
        inside = outside = 0
        for _ in range(40):
            count = chance.randrange(3, 7)
            hull = Hull([drawn_lot(chance, count, 1) for _ in range(chance.randrange(1, 9))])
            for _ in range(30):
                if chance.random() < 0.1:
                    hull.take_in(drawn_lot(chance, count, 1))
                lots = list(hull.lots)
                lot = chance.choice([
                    drawn_lot(chance, count, 1), blend(lots, [chance.randrange(5) for _ in lots[1:]] + [1]), chance.choice(lots)])
                number, shares, prices, scale = hull.nearest(lot)
                self.assertEqual(number, distance(lots, lot)[0])
                self.assertTrue(is_distance(lots, lot, (number, shares, [Ratio(price, scale) for price in prices])))
                inside += number == 0
                outside += number != 0
        self.assertGreater(min(inside, outside), 200)

    def test_corners_of_many_lots(self):
        """Lots on the edges and within a hull in more outcomes: just those that are no blend of others stay."""
        chance = random.Random(78)
        for count in (4, 6, 9):
            for _ in range(6):
                lots = sorted({drawn_lot(chance, count, 1) for _ in range(12)})
                blends = [blend(lots, [chance.choice([0, 0, 1, 3]) for _ in lots[1:]] + [1]) for _ in range(30)]
                told = corners(lots + blends)
                for lot in sorted(set(lots + blends)):
                    others = [other for other in lots + blends if other != lot]
                    self.assertEqual(lot in told, distance(others, lot)[0] != 0)


class TestWrongArguments(HullCase):
    def test_lots_first(self):
        good = (1, 0, 0)
        wrong = [[lot] for lot in NO_LOTS] + [[good, lot] for lot in NO_LOTS] + [
            [], (), None, good, "lots", {good: 1}, [good, (1, 0, 0, 0)], [(1, 0, 0, 0), good], [good] * 65, True, 1,
        ]
        for lots in wrong + any_values():
            self.assert_raises_with(InvalidLots, lots, corners, lots)
            self.assert_raises_with(InvalidLots, lots, shares_in, lots, None)
            self.assert_raises_with(InvalidLots, lots, is_shares_in, lots, None, None)
            self.assert_raises_with(InvalidLots, lots, is_outside, lots, None, None)
            self.assert_raises_with(InvalidLots, lots, distance, lots, None)
            self.assert_raises_with(InvalidLots, lots, is_distance, lots, good, (0, [1], good))

    def test_then_the_lot(self):
        lots = [(1, 0, 0), (0, 1, 1)]
        for lot in NO_LOTS + any_values() + [(1, 0, 0, 0), (0, 0, 0, 1)]:
            self.assert_raises_with(InvalidLot, lot, shares_in, lots, lot)
            self.assert_raises_with(InvalidLot, lot, is_shares_in, lots, lot, None)
            self.assert_raises_with(InvalidLot, lot, is_outside, lots, lot, None)
            self.assert_raises_with(InvalidLot, lot, distance, lots, lot)
            self.assert_raises_with(InvalidLot, lot, is_distance, lots, lot, None)

    def test_bounds(self):
        good = (1, 0, 0)
        self.assertEqual(corners([good] * 64), [good])
        self.assertEqual(corners([(1,) + (0,) * 8]), [(1,) + (0,) * 8])
        self.assert_raises_with(InvalidLot, (1, 0, 0, 0), distance, [good], (1, 0, 0, 0))

    def test_examples(self):
        lots = [(1, 1, 0), (0, 1, 0), (1, 0, 0), (0, 1, 0)]
        self.assertEqual(
            [corners(lots), is_outside(lots, (1, 0, 1), [0, 0, 1]), is_outside(lots, (1, 1, 0), [1, 1, 0])],
            [[(0, 1, 0), (1, 0, 0)], True, False])
        self.assertEqual([str(number) for number in shares_in([(1, 0, 0), (0, 1, 1)], (2, 1, 1))], ['1/2', '1/2'])
        self.assertEqual(str(distance([(1, 0, 0)], (1, 0, 3))[0]), '3/4')


if __name__ == "__main__":
    unittest.main()
