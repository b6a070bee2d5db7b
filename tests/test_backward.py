"""Tests of endlots.backward: [7] and [91] to [96], with the head of their stage."""

import random
import unittest

from asking import (
    COIN, EIGHT, FORK, FREE, HEAD, TAKE, TWO, AskCase, counted_eithers, nested_eithers, spoilt, with_rows,
)
from endlots.backward import best, best_sides, is_best, is_table, least, table
from endlots.errors import InvalidPayoff
from endlots.picks import lot_by
from endlots.ratios import Ratio
from endlots.spaces import Space
from endlots.texts import is_text
from odd import any_values
from plain import (
    SKIP, Drawn, PlainScene, fraction, is_end, is_number, mean_by, place_numbers, plain_is_sides, plain_is_table, ratio,
)
from test_picks import BIASED

WRONG_PAYOFFS = [
    None, True, 0, "000", [], (), [0, 0], [0, 0, 0, 0], [0, 0, True], [False, 0, 0], [0, 0, Ratio(1)], [0, 0, None],
    [0, "0", 0], [[0, 0, 0]], {0: 0, 1: 0, 2: 0}, [0, 0, [0]], [0, 0, Ratio(1, 2)], TWO,
]


def plain_is_best(scene, payoff, value):
    """By the words of [95]."""
    if type(value) is not tuple or len(value) != 3 or not is_number(value[0]):
        return False
    number, sides, numbered = value
    if not plain_is_sides(scene, sides) or not plain_is_table(scene, payoff, numbered):
        return False
    numbers, taken = place_numbers(payoff, numbered), {}
    for row in scene.rows:
        taken[row] = scene.moves[row][dict(sides).get(row, 0)]
    reach = scene.reach({row: {place: 1 for place, _ in move} for row, move in taken.items()})
    if numbers[scene.place] != fraction(number):
        return False
    for row in scene.rows:
        if numbers[row] != scene.mean_of(taken[row], numbers):
            return False
        if not any(is_end(place) for place in reach[row]) and numbers[row] != payoff[scene.never]:
            return False
    return True


def in_ratios(table_told):
    return [(row, Ratio(number)) if type(number) is int else (row, number) for row, number in table_told]


def drawn_payoff(chance, count, place):
    """A payoff of up to 9 digits, with never's the greatest, the least or between."""
    digits = chance.choice([1, 2, 9])
    told = sorted(chance.randrange(-10 ** digits + 1, 10 ** digits) for _ in range(count))
    if place == "greatest":
        never = told.pop()
    elif place == "least":
        never = told.pop(0)
    else:
        never = told.pop(len(told) // 2)
    chance.shuffle(told)
    return told + [never]


class BackwardCase(AskCase):
    def assert_all(self, space, text, store, scene, payoff):
        """All that is told for a payoff, against all picks gone through one by one."""
        lots = [scene.lots_by_dice(scene.dice_of(pick)) for pick in scene.picks()]
        means = {place: [mean_by(told[place], payoff) for told in lots] for place in scene.rows + [scene.place]}
        number = self.ask(best, space, text, store, payoff)
        self.assertEqual(fraction(number), max(means[scene.place]))
        lowest = self.ask(least, space, text, store, payoff)
        self.assertEqual(fraction(lowest), min(means[scene.place]))
        self.assertEqual(lowest, -best(space, text, store, [-one for one in payoff]))
        numbered = self.ask(table, space, text, store, payoff)
        self.assertEqual([(row, fraction(one)) for row, one in numbered], [(row, max(means[row])) for row in scene.rows])
        self.assert_numbers([number, lowest] + [one for _, one in numbered])
        sides = self.ask(best_sides, space, text, store, payoff)
        self.assertTrue(plain_is_sides(scene, sides))
        followed = scene.lots_by_dice(scene.dice_of([side for _, side in sides]))
        for row in scene.rows:
            self.assertEqual(mean_by(followed[row], payoff), max(means[row]))
        self.assertTrue(plain_is_table(scene, payoff, numbered))
        self.assertIs(is_table(space, text, store, payoff, numbered), True)
        self.assertIs(is_best(space, text, store, payoff, (number, sides, numbered)), True)
        self.assertIs(is_best(space, text, store, tuple(payoff), (number, tuple(sides), tuple(numbered))), True)
        self.assertTrue(plain_is_best(scene, payoff, (number, sides, numbered)))
        return (number, sides, numbered)


class TestBest(BackwardCase):
    def test_examples(self):
        payoff = [0, 3, -5]
        self.assertEqual([str(best(TWO, FREE, 0, payoff)), str(least(TWO, FREE, 0, payoff))], ["3", "-5"])
        self.assertEqual(best_sides(TWO, FREE, 0, payoff), [(TAKE, 1)])
        self.assertEqual([(row, str(one)) for row, one in table(TWO, FREE, 0, [0, 3, 4])], [(HEAD, "4"), (TAKE, "4")])
        self.assertIs(is_table(TWO, FREE, 0, [0, 3, 4], [(HEAD, 3), (TAKE, 3)]), False)
        self.assertIs(is_best(TWO, FREE, 0, payoff, (3, [(TAKE, 0)], [(HEAD, 3), (TAKE, 3)])), False)
        self.assertIs(is_best(TWO, FREE, 0, payoff, (3, [(TAKE, 1)], [(HEAD, 3), (TAKE, 3)])), True)

    def test_by_name(self):
        payoff = (0, 3, -5)
        self.assertEqual(best(space=TWO, text=FREE, store=0, payoff=payoff), 3)
        self.assertEqual(least(space=TWO, text=FREE, store=0, payoff=payoff), -5)
        told = table(space=TWO, text=FREE, store=0, payoff=payoff)
        self.assertEqual(told, [(HEAD, 3), (TAKE, 3)])
        self.assertEqual(best_sides(space=TWO, text=FREE, store=0, payoff=payoff), [(TAKE, 1)])
        self.assertIs(is_table(space=TWO, text=FREE, store=0, payoff=payoff, value=told), True)
        self.assertIs(is_best(space=TWO, text=FREE, store=0, payoff=payoff, value=(3, [(TAKE, 1)], told)), True)

    def test_against_all_picks(self):
        chance = random.Random(501)
        drawn = Drawn(chance, weights=BIASED)
        for at in range(120):
            space, text, store, scene = drawn.scene(chance.randrange(2, 6), most_eithers=4)
            self.assert_all(space, text, store, scene, drawn_payoff(chance, len(space) + 1, ("greatest", "least", "between")[at % 3]))

    def test_going_on_for_ever(self):
        # The best of all, the worst of all, and just as good as an end.
        for never, top, bottom, taken in [(9, 9, 3, 0), (-9, 3, -9, 1), (3, 3, 3, None)]:
            payoff = [7, 3, never]
            self.assertEqual([best(TWO, FREE, 0, payoff), least(TWO, FREE, 0, payoff)], [top, bottom])
            if taken is not None:
                self.assertEqual(best_sides(TWO, FREE, 0, payoff), [(TAKE, taken)])
            self.assert_all(TWO, FREE, 0, PlainScene(TWO, FREE, 0), payoff)
        hang = ("while", [0], SKIP)
        self.assertEqual([best(TWO, hang, 0, [9, 9, -9]), least(TWO, hang, 0, [9, 9, -9])], [-9, -9])
        self.assertEqual(table(TWO, hang, 0, [9, 9, -9]), [(HEAD, -9)])
        rare = ("while", [0], ("either", ("draw", 0, (0, 1), (10 ** 6, 1)), SKIP))
        self.assertEqual(best(TWO, rare, 0, [9, 5, 4]), 5)
        self.assertEqual(best(TWO, rare, 0, [9, 5, 6]), 6)
        # To end ahead of a loop that hangs, or to go into it.
        ahead = ("then", FORK, ("while", [0], SKIP))
        self.assertEqual([best(TWO, ahead, 0, [99, 1, 2]), least(TWO, ahead, 0, [-99, 1, 2])], [2, 1])

    def test_sides_that_look_good_but_stay_for_ever(self):
        # At both rows of the loop either side has the greatest mean; only one of them ever ends.
        text = ("while", [0], ("either", ("either", SKIP, SKIP), ("set", 0, [1, 1])))
        inner = ((0, 0), 0)
        payoff = [0, 5, 1]
        told = self.assert_all(TWO, text, 0, PlainScene(TWO, text, 0), payoff)
        numbered = [(HEAD, 5), (TAKE, 5), (inner, 5)]
        self.assertEqual(told, (5, told[1], numbered))
        for side in (0, 1):
            self.assertIs(is_best(TWO, text, 0, payoff, (5, [(TAKE, 1), (inner, side)], numbered)), True)
            self.assertIs(is_best(TWO, text, 0, payoff, (5, [(TAKE, 0), (inner, side)], numbered)), False)
        # If never is worth as much, going on is as good.
        payoff = [0, 5, 5]
        for sides in [(0, 0), (0, 1), (1, 0), (1, 1)]:
            told = (5, [(TAKE, sides[0]), (inner, sides[1])], numbered)
            self.assertIs(is_best(TWO, text, 0, payoff, told), True)
        self.assert_all(TWO, text, 0, PlainScene(TWO, text, 0), payoff)

    def test_first_places_that_are_ends(self):
        for store, number in [(0, 4), (1, -6)]:
            payoff = [4, -6, 99]
            told = [best(TWO, SKIP, store, payoff), least(TWO, SKIP, store, payoff), table(TWO, SKIP, store, payoff)]
            self.assertEqual(told + [best_sides(TWO, SKIP, store, payoff)], [number, number, [], []])
            for value in [(number, [], []), (Ratio(number), (), []), (number, (), ())]:
                self.assertIs(is_best(TWO, SKIP, store, payoff, value), True)
            for value in [(99, [], []), (number, []), (number, [], [], []), [number, [], []], (number, [], [(HEAD, 0)])]:
                self.assertIs(is_best(TWO, SKIP, store, payoff, value), False)
            self.assertIs(is_table(TWO, SKIP, store, payoff, []), True)
            self.assertIs(is_table(TWO, SKIP, store, payoff, ()), True)

    def test_any_number_of_eithers(self):
        wide = ("if", [0, 1, 2, 3, 4, 5, 6, 7], ("either", ("draw", 0, (0, 1), (1, 2)), ("draw", 1, (0, 1), (2, 1))), SKIP)
        text = ("while", [0, 1, 2, 3, 4, 5], ("then", wide, ("either", ("draw", 2, (0, 1), (1, 9)), wide)))
        for payoff in ([0] * 6 + [1, 2, 0], [0] * 6 + [1, 2, 3], [5, 0, 0, 0, 0, 0, -7, 9, -9]):
            sides = best_sides(EIGHT, text, 0, payoff)
            self.assertGreater(len(sides), 12)
            value = (best(EIGHT, text, 0, payoff), sides, table(EIGHT, text, 0, payoff))
            self.assertIs(is_best(EIGHT, text, 0, payoff, value), True)
            self.assertTrue(plain_is_best(PlainScene(EIGHT, text, 0), payoff, value))
            pick = tuple(side for _, side in sides)
            self.assertEqual(mean_by(lot_by(EIGHT, text, 0, pick), payoff), fraction(value[0]))

    def test_by_the_parts_of_a_text(self):
        """[96]"""
        chance = random.Random(502)
        drawn = Drawn(chance, sizes=(3,), weights=BIASED)
        space = Space([3])
        seen = 0
        while seen < 60:
            one, other, guard = drawn.text(space, 3), drawn.text(space, 2), drawn.stores(space)
            whole = ("while", guard, one)
            texts = [("either", one, other), ("if", guard, one, other), ("then", one, other), ("then", one, whole)]
            if not all(is_text(space, text) for text in texts):
                continue
            if any(len(PlainScene(space, text, store).rows) > 60 for text in texts for store in range(3)):
                continue
            seen += 1
            payoff = drawn_payoff(chance, 4, chance.choice(("greatest", "least", "between")))
            for function, better in ((best, max), (least, min)):
                either, choice, both, again = [
                    [fraction(function(space, text, store, payoff)) for store in range(3)] for text in texts]
                first, second, round_again = [
                    [fraction(function(space, text, store, payoff)) for store in range(3)] for text in (one, other, whole)]
                common = 1
                for number in second:
                    common *= number.denominator
                scaled = [int(number * common) for number in second] + [payoff[3] * common]
                for store in range(3):
                    self.assertEqual(either[store], better(first[store], second[store]))
                    self.assertEqual(choice[store], first[store] if store in guard else second[store])
                    self.assertEqual(both[store], fraction(function(space, one, store, scaled)) / common)
                    self.assertEqual(round_again[store], again[store] if store in guard else payoff[store])


class TestTables(BackwardCase):
    def test_the_smaller_of_two_tables(self):
        """[91]"""
        chance = random.Random(503)
        drawn = Drawn(chance)
        for _ in range(30):
            space, text, store, scene = drawn.scene(4, most_eithers=4)
            payoffs = [drawn_payoff(chance, len(space) + 1, "between") for _ in range(3)]
            high = [[max(one) for one in zip(payoffs[0], payoff)] for payoff in payoffs[1:]]
            tables = [table(space, text, store, payoff) for payoff in high]
            both = []
            for (row, one), (_, other) in zip(*tables):
                self.assertIs(is_table(space, text, store, payoffs[0], tables[0]), True)
                both.append((row, one if one.below(other) else other))
            self.assertIs(is_table(space, text, store, payoffs[0], both), True)
            for one, other in zip(table(space, text, store, payoffs[0]), both):
                self.assertFalse(other[1].below(one[1]))

    def test_never_binds_only_where_one_may_stay(self):
        text = ("then", COIN, ("while", [0], SKIP))
        rows = [((0,), 0), ((1,), 0)]
        payoff = [0, -9, 3]
        self.assertIs(is_table(TWO, text, 0, payoff, [(rows[0], -5), (rows[1], 3)]), True)
        self.assertIs(is_table(TWO, text, 0, payoff, [(rows[0], -5), (rows[1], Ratio(299, 100))]), False)
        self.assertIs(is_table(TWO, text, 0, payoff, [(rows[0], Ratio(-501, 100)), (rows[1], 3)]), False)
        self.assertIs(is_table(TWO, text, 0, payoff, [(rows[0], 10 ** 3899), (rows[1], Ratio(10 ** 3900))]), False)
        self.assertIs(is_table(TWO, text, 0, payoff, [(rows[0], 10 ** 3899), (rows[1], Ratio(3 * 10 ** 3899))]), True)

    def test_equal_places_count_twice(self):
        text = ("then", COIN, ("set", 0, [1, 1]))
        self.assertEqual(table(TWO, text, 0, [7, 4, 0]), [(((0,), 0), 4)])
        self.assertIs(is_table(TWO, text, 0, [7, 4, 0], [(((0,), 0), 4)]), True)
        self.assertIs(is_table(TWO, text, 0, [7, 4, 0], [(((0,), 0), Ratio(399, 100))]), False)

    def test_spoilt(self):
        chance = random.Random(504)
        drawn = Drawn(chance, weights=((1, 1), (1, 2)))
        for _ in range(14):
            space, text, store, scene = drawn.scene(4, most_rows=6, most_eithers=3, least_eithers=1)
            payoff = drawn_payoff(chance, len(space) + 1, chance.choice(("greatest", "least", "between")))
            value = (best(space, text, store, payoff), best_sides(space, text, store, payoff), table(space, text, store, payoff))
            for other in spoilt(value[2]):
                good = plain_is_table(scene, payoff, other)
                self.assertIs(is_table(space, text, store, payoff, other), good, other)
            for other in spoilt(value):
                self.assertIs(is_best(space, text, store, payoff, other), plain_is_best(scene, payoff, other), other)
            for pick in scene.picks():
                other = (value[0], list(zip(scene.eithers, pick)), value[2])
                self.assertIs(is_best(space, text, store, payoff, other), plain_is_best(scene, payoff, other), other)

    def test_tables_that_are_not_the_least(self):
        numbered = [(HEAD, 9), (TAKE, 9)]
        self.assertIs(is_table(TWO, FREE, 0, [0, 3, 4], numbered), True)
        for side in (0, 1):
            self.assertIs(is_best(TWO, FREE, 0, [0, 3, 4], (9, [(TAKE, side)], numbered)), False)
        self.assertIs(is_best(TWO, FREE, 0, [0, 3, 4], (4, [(TAKE, 0)], [(HEAD, 4), (TAKE, 4)])), True)
        self.assertIs(is_best(TWO, FREE, 0, [0, 3, 4], (4, [(TAKE, 1)], [(HEAD, 4), (TAKE, 4)])), False)

    def test_any_values(self):
        payoff = [0, 3, 4]
        for value in any_values():
            told = [is_table(TWO, text, 0, payoff, value) for text in (FREE, COIN, SKIP)]
            self.assertEqual(told, [False, False, isinstance(value, (list, tuple)) and not value])
            self.assertIs(is_best(TWO, FREE, 0, payoff, value), False)
            self.assertIs(is_best(TWO, SKIP, 0, [7, 3, 4], value), False)
            for whole in [
                    (value, [(TAKE, 0)], [(HEAD, 4), (TAKE, 4)]), (4, value, [(HEAD, 4), (TAKE, 4)]), (4, [(TAKE, 0)], value),
                    (4, [(TAKE, value)], [(HEAD, 4), (TAKE, 4)]), (4, [(value, 0)], [(HEAD, 4), (TAKE, 4)]),
                    (4, [value], [(HEAD, 4), (TAKE, 4)]), (4, [(TAKE, 0)], [value, (TAKE, 4)]),
                    (4, [(TAKE, 0)], [(HEAD, value), (TAKE, 4)]), (4, [(TAKE, 0)], [(HEAD, 4), (value, 4)])]:
                good = plain_is_best(PlainScene(TWO, FREE, 0), payoff, whole)
                self.assertIs(is_best(TWO, FREE, 0, payoff, whole), good, whole)
                self.assertIs(is_table(TWO, FREE, 0, payoff, whole[2]), plain_is_table(PlainScene(TWO, FREE, 0), payoff, whole[2]))


class TestBounds(BackwardCase):
    def test_rows(self):
        payoff = list(range(9))
        self.assertEqual(best(EIGHT, with_rows(64), 0, payoff), 8)
        self.assertEqual(table(EIGHT, with_rows(64), 0, payoff)[63][1], 8)
        for count in (65, 72, 104):
            text = with_rows(count)
            for function in (best, least, table, best_sides):
                self.assert_too_many(count, function, EIGHT, text, 0, payoff)
            for function in (is_table, is_best):
                for value in (None, [], (8, [], [])):
                    self.assert_too_many(count, function, EIGHT, text, 0, payoff, value)
        # The number of either rows does not matter.
        for text, count in [(counted_eithers(7), 7), (nested_eithers(11), 11)]:
            self.assertEqual(best(TWO, text, 0, [1, 2, 3]), 1)
            self.assertEqual(len(best_sides(TWO, text, 0, [1, 2, 3])), count)

    def test_which_error_comes_first(self):
        many = with_rows(72)
        for function in (best, least, table, best_sides, is_table, is_best):
            more = (None,) if function in (is_table, is_best) else ()
            self.assert_first_errors(function, None, *more)
            for payoff in WRONG_PAYOFFS:
                self.assert_raises_with(InvalidPayoff, payoff, function, TWO, FREE, 0, payoff, *more)
                self.assert_raises_with(InvalidPayoff, payoff, function, EIGHT, many, 0, payoff, *more)
            for payoff in any_values():
                self.assert_raises_with(InvalidPayoff, payoff, function, EIGHT, SKIP, 0, payoff, *more)

    def test_payoffs_that_the_package_told(self):
        large = 10 ** 500
        self.assertEqual(best(TWO, FREE, 0, [0, large, large + 1]), large + 1)
        self.assertEqual(least(TWO, ("then", FREE, COIN), 0, [1, large, large]), Ratio(1 + 2 * large, 3))
        self.assertEqual(ratio(fraction(best(TWO, COIN, 0, [large, 0, 0]))), Ratio(large, 3))


if __name__ == "__main__":
    unittest.main()
