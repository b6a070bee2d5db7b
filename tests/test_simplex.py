"""Tests of endlots.simplex, on which the hulls rest: [35] and [36]."""

import random
import unittest
from unittest import mock

from endlots import simplex

MOST_EXCHANGES = 500


class Counted(simplex.Mixture):
    """A mixture that is not exchanged for ever."""

    exchanges = 0

    def exchange(self, entering, parts, leaving):
        self.exchanges += 1
        if self.exchanges > MOST_EXCHANGES:
            raise AssertionError("exchanged again and again")
        super().exchange(entering, parts, leaving)


class TestCheapest(unittest.TestCase):
    def assert_cheapest(self, columns, costs, goal, start):
        """Judge the mixture by the prices: no other one can be cheaper."""
        with mock.patch.object(simplex, "Mixture", Counted):
            amounts, prices, scale = simplex.cheapest(columns, costs, goal, start)
        self.assertGreater(scale, 0)
        self.assertTrue(all(amount >= 0 for amount in amounts))
        made = [0] * len(goal)
        for column, amount in zip(columns, amounts):
            for row, entry in column:
                made[row] += entry * amount
        self.assertEqual(made, [scale * number for number in goal])
        for column, cost in zip(columns, costs):
            self.assertLessEqual(sum(prices[row] * entry for row, entry in column), cost * scale)
        cost = sum(one * amount for one, amount in zip(costs, amounts))
        self.assertEqual(sum(price * number for price, number in zip(prices, goal)), cost)
        return cost, scale

    def test_columns_that_come_round(self):
        # Whoever takes the column that does most each time comes round to the same columns here without end.
        columns = [
            [(0, 1), (1, 1), (2, 1)], [(0, -11), (1, -3)], [(0, -5), (1, -1)], [(0, 18), (1, 2)],
            [(0, 2)], [(1, 2)], [(0, 1)], [(1, 1)], [(2, 1)],
        ]
        cost, scale = self.assert_cheapest(columns, [1, 57, 9, 24, 0, 0, 0, 0, 11], [0, 0, 1], [6, 7, 8])
        self.assertEqual(cost, 10 * scale)

    def test_nothing_to_make(self):
        self.assertEqual(simplex.cheapest([[(0, 1)], [(1, 1)]], [1, 1], [0, 0], [0, 1]), ([0, 0], [0, 0], 1))

    def test_many(self):
        chance = random.Random(71)
        for _ in range(200):
            rows, many = chance.randrange(1, 6), chance.randrange(1, 9)
            columns = [
                [(row, entry) for row in range(rows) if (entry := chance.randrange(-3, 6)) != 0] for _ in range(many)]
            costs = [chance.randrange(0, 9) for _ in columns]
            goal = [chance.choice((0, 0, 1, 7)) for _ in range(rows)]
            start = [many + row for row in range(rows)]
            units = [[(row, 1)] for row in range(rows)]
            self.assert_cheapest(columns + units, costs + [chance.randrange(0, 30) for _ in units], goal, start)


if __name__ == "__main__":
    unittest.main()
