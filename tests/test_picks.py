"""Tests of endlots.picks: [71] to [77], with the head of their stage."""

import random
import unittest
from itertools import product

from asking import (
    COIN, EIGHT, FORK, FREE, HEAD, TAKE, TWO, AskCase, counted_eithers, nested_eithers, spoilt, with_rows,
)
from endlots.errors import InvalidBlend, InvalidDice, InvalidPick
from endlots.picks import (
    eithers, is_blend, is_dice, is_pick, lot_by, lot_by_dice, lot_of_blend, passes_by, passes_by_dice, passes_of_blend,
    picks,
)
from endlots.ratios import Ratio
from endlots.spaces import Space
from odd import any_values
from plain import SKIP, Drawn, PlainScene, fraction, is_end, plain_is_blend, plain_is_pick, shares_of

# What each function that has a pick, dice or a blend raises for a wrong one.
JUDGED = [
    (lot_by, InvalidPick), (passes_by, InvalidPick), (lot_by_dice, InvalidDice), (passes_by_dice, InvalidDice),
    (lot_of_blend, InvalidBlend), (passes_of_blend, InvalidBlend),
]
BIASED = [(1, 1), (999999, 10 ** 6), (10 ** 6, 1), (3, 7)]


def plain_is_dice(scene, value):
    return isinstance(value, (list, tuple)) and len(value) == len(scene.eithers) and all(
        type(one) is tuple and len(one) == 2 and all(type(weight) is int and weight >= 0 for weight in one) and any(one)
        for one in value)


def in_fractions(passes):
    return [(row, None if number is None else fraction(number)) for row, number in passes]


class PickCase(AskCase):
    def assert_passes(self, scene, lot, passes, taken):
        """What [74] says: who has a number hands on, and numbers and shares are the sums of what is handed on."""
        numbers = dict(in_fractions(passes))
        handed = {place: 0 for place in scene.rows + list(range(scene.never))}
        for row, number in numbers.items():
            if number is not None:
                for place, chance in taken[row].items():
                    handed[place] += number * chance
        for row, number in numbers.items():
            if number is not None:
                self.assertEqual(number, handed[row] + (row == scene.place))
        if not is_end(scene.place):
            self.assertEqual([handed[store] for store in range(scene.never)], shares_of(lot)[:-1])
        self.assert_numbers([number for _, number in passes if number is not None])


class TestPicks(PickCase):
    def test_examples(self):
        self.assertEqual([eithers(TWO, FREE, 0), picks(TWO, FREE, 0), picks(TWO, FREE, 1)], [[TAKE], [(0,), (1,)], [()]])
        self.assertEqual(lot_by(TWO, FREE, 0, (0,)), (0, 0, 1))
        self.assertEqual(passes_by(TWO, FREE, 0, (0,)), [(HEAD, None), (TAKE, None)])

    def test_by_name(self):
        self.assertEqual(eithers(space=TWO, text=FREE, store=0), [TAKE])
        self.assertEqual(picks(space=TWO, text=FREE, store=1), [()])
        self.assertIs(is_pick(space=TWO, text=FREE, store=0, value=(1,)), True)
        self.assertEqual(lot_by(space=TWO, text=FREE, store=0, pick=(1,)), (0, 1, 0))
        self.assertEqual(passes_by(space=TWO, text=FREE, store=0, pick=(1,)), [(HEAD, Ratio(1)), (TAKE, Ratio(1))])

    def test_picks_are_ascending(self):
        for count in range(7):
            text = counted_eithers(count)
            self.assertEqual(len(eithers(TWO, text, 1)), count)
            self.assertEqual(self.ask(picks, TWO, text, 1), list(product((0, 1), repeat=count)))

    def test_rows_that_are_not_passed_have_sides_too(self):
        text = ("either", SKIP, FORK)
        self.assertEqual(eithers(TWO, text, 0), [((), 0), ((1,), 0)])
        for side in (0, 1):
            self.assertEqual(lot_by(TWO, text, 0, (0, side)), (1, 0, 0))
            self.assertEqual(passes_by(TWO, text, 0, (0, side)), [(((), 0), Ratio(1)), (((1,), 0), Ratio(0))])

    def test_which_passes_have_no_number(self):
        # A round without end that is not passed has 0; who goes off to one has a number.
        text = ("either", ("then", COIN, ("while", [0], SKIP)), SKIP)
        self.assertEqual(passes_by(TWO, text, 0, (1,)), [(((), 0), Ratio(1)), (((0, 0), 0), Ratio(0)), (((0, 1), 0), Ratio(0))])
        self.assertEqual(passes_by(TWO, text, 0, (0,)), [(((), 0), Ratio(1)), (((0, 0), 0), Ratio(1)), (((0, 1), 0), None)])
        self.assertEqual(lot_by(TWO, text, 0, (0,)), (0, 2, 1))
        # A round that is left with a chance has a number, however small the chance is.
        rare = ("while", [0], ("draw", 0, (0, 1), (10 ** 6, 1)))
        self.assertEqual(passes_by(TWO, rare, 0, ()), [(HEAD, Ratio(10 ** 6 + 1)), (TAKE, Ratio(10 ** 6 + 1))])
        self.assertEqual(lot_by(TWO, rare, 0, ()), (0, 1, 0))
        self.assertEqual(lot_by(TWO, ("while", [0, 1], COIN), 0, ()), (0, 0, 1))
        self.assertEqual(passes_by(TWO, ("while", [0, 1], COIN), 0, ())[0], (HEAD, None))
        # A row passed ahead of a round, and some times within a loop that leads into it.
        space, loop = Space([3]), ("while", [0], ("draw", 0, (0, 1), (2, 1)))
        text = ("then", loop, ("while", [1], ("set", 0, [1, 1, 1])))
        self.assertEqual(passes_by(space, text, 0, ()), [(((0,), 0), Ratio(3)), (((0, 0), 0), Ratio(3)), (((1,), 1), None)])
        self.assertEqual(lot_by(space, text, 0, ()), (0, 0, 0, 1))
        self.assertEqual(lot_by(space, text, 2, ()), (0, 0, 1, 0))
        self.assertEqual(passes_by(space, text, 2, ()), [])

    def test_a_row_on_a_round_that_is_come_to_later(self):
        # 0 goes off to 1 or 2; 1 comes back to 0; 2 stays for ever.
        space = Space([4])
        text = ("while", [0, 1, 2], ("if", [0], ("draw", 0, (1, 2), (1, 1)), ("if", [1], ("set", 0, [0, 0, 2, 3]), SKIP)))
        self.assertEqual(passes_by(space, text, 0, ()), [
            (((), 0), Ratio(2)), (((), 1), Ratio(1)), (((), 2), None), (((0, 0), 0), Ratio(2))])
        self.assertEqual(lot_by(space, text, 0, ()), (0, 0, 0, 0, 1))

    def test_against_dense_equations(self):
        chance = random.Random(301)
        drawn = Drawn(chance, weights=BIASED)
        for _ in range(120):
            space, text, store, scene = drawn.scene(chance.randrange(2, 6), most_rows=30, most_eithers=4)
            self.assertEqual(self.ask(eithers, space, text, store), scene.eithers)
            self.assertEqual(picks(space, text, store), scene.picks())
            for pick in chance.sample(scene.picks(), min(4, len(scene.picks()))):
                lot = self.ask(lot_by, space, text, store, pick)
                self.assertEqual(lot, scene.lot_by(pick))
                passes = self.ask(passes_by, space, text, store, pick)
                self.assertEqual(in_fractions(passes), scene.passes_by(pick))
                self.assert_passes(scene, lot, passes, scene.chances(scene.dice_of(pick)))

    def test_picks_that_differ_where_nothing_is_passed(self):
        """[73]: equal lots and equal numbers of passes."""
        chance = random.Random(302)
        drawn = Drawn(chance)
        seen = 0
        for _ in range(60):
            space, text, store, scene = drawn.scene(5, most_eithers=5, least_eithers=2)
            pick = chance.choice(scene.picks())
            passes = dict(passes_by(space, text, store, pick))
            other = tuple(
                1 - side if passes[row] == 0 and passes[row] is not None else side
                for side, row in zip(pick, scene.eithers))
            seen += other != pick
            self.assertEqual(lot_by(space, text, store, other), lot_by(space, text, store, pick))
            self.assertEqual(passes_by(space, text, store, other), passes_by(space, text, store, pick))
        self.assertGreater(seen, 10)


class TestDice(PickCase):
    def test_examples(self):
        self.assertEqual(str(passes_by_dice(TWO, FREE, 0, [(1, 2)])[0][1]), "3/2")
        self.assertEqual(lot_by_dice(TWO, FREE, 0, [(1, 1)]), (0, 1, 0))
        self.assertEqual(lot_of_blend(TWO, FREE, 0, [(1, (0,)), (1, (1,))]), (0, 1, 1))

    def test_by_name(self):
        self.assertIs(is_dice(space=TWO, text=FREE, store=0, value=((0, 7),)), True)
        self.assertEqual(lot_by_dice(space=TWO, text=FREE, store=0, dice=[(7, 0)]), (0, 0, 1))
        self.assertEqual(passes_by_dice(space=TWO, text=FREE, store=1, dice=()), [])
        self.assertIs(is_blend(space=TWO, text=FREE, store=1, value=[(9, ())]), True)
        self.assertEqual(lot_of_blend(space=TWO, text=FREE, store=1, blend=[(9, ())]), (0, 1, 0))
        self.assertEqual(passes_of_blend(space=TWO, text=FREE, store=1, blend=[(9, ())]), [])

    def test_not_in_lowest_terms_and_large(self):
        text = ("either", COIN, FORK)
        large = 10 ** 200
        self.assertEqual(lot_by_dice(TWO, text, 0, [(2, 4), (3, 3)]), lot_by_dice(TWO, text, 0, [(1, 2), (1, 1)]))
        self.assertEqual(lot_by_dice(TWO, FORK, 0, [(large, large + 1)]), (large, large + 1, 0))
        self.assertEqual(lot_by_dice(TWO, ("while", [0], ("either", SKIP, COIN)), 0, [(large, 1)]), (0, 1, 0))
        self.assertEqual(
            passes_by_dice(TWO, FREE, 0, [(large, 1)]), [(HEAD, Ratio(large + 1)), (TAKE, Ratio(large + 1))])

    def test_both_places(self):
        self.assertEqual(lot_by_dice(TWO, ("either", SKIP, SKIP), 1, [(3, 5)]), (0, 1, 0))
        self.assertEqual(passes_by_dice(TWO, ("either", COIN, COIN), 1, [(1, 3)]), [
            (((), 1), Ratio(1)), (((0,), 1), Ratio(1, 4)), (((1,), 1), Ratio(3, 4))])
        self.assertEqual(passes_by_dice(TWO, FREE, 0, [(1, 0)]), [(HEAD, None), (TAKE, None)])

    def test_against_dense_equations(self):
        chance = random.Random(303)
        drawn = Drawn(chance, weights=BIASED)
        for _ in range(120):
            space, text, store, scene = drawn.scene(chance.randrange(2, 6), most_rows=30, most_eithers=30, least_eithers=1)
            dice = [chance.choice([(0, 1), (1, 0), (1, 1), (2, 6), (5, 3), (10 ** 9, 1)]) for _ in scene.eithers]
            self.assertIs(is_dice(space, text, store, dice), True)
            lot = self.ask(lot_by_dice, space, text, store, dice)
            self.assertEqual(lot, scene.lot_by_dice(dice))
            passes = self.ask(passes_by_dice, space, text, store, dice)
            self.assertEqual(in_fractions(passes), scene.passes_by_dice(dice))
            self.assert_passes(scene, lot, passes, scene.chances(dice))
            pick = tuple(chance.randrange(2) for _ in scene.eithers)
            sure = [(0, 3) if side else (9, 0) for side in pick]
            self.assertEqual(lot_by_dice(space, text, store, sure), lot_by(space, text, store, pick))
            self.assertEqual(passes_by_dice(space, text, store, sure), passes_by(space, text, store, pick))


class TestBlends(PickCase):
    def test_small(self):
        both = [(1, (0,)), (2, (1,))]
        self.assertEqual(lot_of_blend(TWO, FREE, 0, both), (0, 2, 1))
        self.assertEqual(lot_of_blend(TWO, FREE, 0, both[::-1]), (0, 2, 1))
        self.assertEqual(passes_of_blend(TWO, FREE, 0, both), [(HEAD, None), (TAKE, None)])
        self.assertEqual(passes_of_blend(TWO, FREE, 0, [(10 ** 60, (1,)), (1, (0,))]), [(HEAD, None), (TAKE, None)])
        self.assertEqual(passes_of_blend(TWO, FREE, 0, both[1:]), [(HEAD, Ratio(1)), (TAKE, Ratio(1))])
        text = ("either", COIN, SKIP)
        self.assertEqual(passes_of_blend(TWO, text, 0, both), [(((), 0), Ratio(1)), (((0,), 0), Ratio(1, 3))])

    def test_against_dense_equations(self):
        chance = random.Random(304)
        drawn = Drawn(chance, weights=BIASED)
        for _ in range(80):
            space, text, store, scene = drawn.scene(chance.randrange(2, 6), most_rows=30, most_eithers=5)
            some = chance.sample(scene.picks(), chance.randrange(1, len(scene.picks()) + 1))
            blend = [(chance.randrange(1, 9), pick) for pick in some]
            self.assertIs(is_blend(space, text, store, blend), True)
            self.assertEqual(self.ask(lot_of_blend, space, text, store, blend), scene.blended_lot(blend))
            told = in_fractions(self.ask(passes_of_blend, space, text, store, blend))
            weights = sum(weight for weight, _ in blend)
            passes = [dict(scene.passes_by(pick)) for pick in some]
            for row, number in told:
                numbers = [found[row] for found in passes]
                if None in numbers:
                    self.assertIsNone(number)
                else:
                    self.assertEqual(number, sum(one * weight for one, (weight, _) in zip(numbers, blend)) / weights)
            self.assertEqual([row for row, _ in told], scene.rows)

    def test_more_than_sixty_four_picks(self):
        text = counted_eithers(7, ("if", [0], SKIP, SKIP))
        blend = [(at + 1, pick) for at, pick in enumerate(product((0, 1), repeat=7))]
        self.assertEqual(lot_of_blend(TWO, text, 0, blend), (1, 0, 0))
        self.assertTrue(all(number == 1 for _, number in passes_of_blend(TWO, text, 0, blend)))

    def test_ahead_or_anew(self):
        """[77]: without a way back dice are the blend of all picks by the products of their weights."""
        chance = random.Random(305)
        drawn = Drawn(chance)
        seen = 0
        while seen < 40:
            space, text, store, scene = drawn.scene(4, most_eithers=4, least_eithers=2)
            reach = scene.reach(scene.chances([(1, 1)] * len(scene.eithers)))
            if any(row in reach[row] for row in scene.eithers):
                continue
            seen += 1
            dice = [chance.choice([(0, 2), (1, 2), (4, 6), (3, 0)]) for _ in scene.eithers]
            blend = []
            for pick in scene.picks():
                weight = 1
                for sides, side in zip(dice, pick):
                    weight *= sides[side]
                blend += [(weight, pick)] if weight else []
            self.assertEqual(lot_by_dice(space, text, store, dice), lot_of_blend(space, text, store, blend))
            self.assertEqual(passes_by_dice(space, text, store, dice), passes_of_blend(space, text, store, blend))
        self.assertNotEqual(lot_by_dice(TWO, FREE, 0, [(1, 1)]), lot_of_blend(TWO, FREE, 0, [(1, (0,)), (1, (1,))]))


class TestJudged(PickCase):
    def judge_all(self, space, text, store, scene, values):
        for value in values:
            for judge, plain_judge, functions in [
                    (is_pick, plain_is_pick, JUDGED[:2]), (is_dice, plain_is_dice, JUDGED[2:4]),
                    (is_blend, plain_is_blend, JUDGED[4:])]:
                good = plain_judge(scene, value)
                self.assertIs(judge(space, text, store, value), good, value)
                for function, error in functions:
                    if good:
                        function(space, text, store, value)
                    else:
                        self.assert_raises_with(error, value, function, space, text, store, value)

    def test_any_values(self):
        wide = ("either", SKIP, FORK)
        for text, store in [(SKIP, 0), (FREE, 0), (wide, 0)]:
            scene = PlainScene(TWO, text, store)
            self.judge_all(TWO, text, store, scene, any_values())
            self.judge_all(TWO, text, store, scene, [[value] for value in any_values()])
            self.judge_all(TWO, text, store, scene, [(value,) for value in any_values()])
            self.judge_all(TWO, text, store, scene, [[(1, value)] for value in any_values()])
            self.judge_all(TWO, text, store, scene, [[(value, (0,) * len(scene.eithers))] for value in any_values()])

    def test_spoilt(self):
        text = ("either", SKIP, FORK)
        scene = PlainScene(TWO, text, 0)
        for value in [(0, 1), [(2, 0), (0, 3)], [(0, 1), (1, 0)], [(1, (0, 1)), (2, (1, 1)), (3, (0, 0))]]:
            self.judge_all(TWO, text, 0, scene, [value, tuple(value)] + spoilt(value))
        self.judge_all(TWO, SKIP, 0, PlainScene(TWO, SKIP, 0), [(), [], [(3, ())]] + spoilt([(3, ())]))

    def test_kinds(self):
        self.assertIs(is_pick(TWO, FREE, 0, [0]), False)
        self.assertIs(is_pick(TWO, FREE, 0, (True,)), False)
        self.assertIs(is_dice(TWO, FREE, 0, ((1, 1),)), True)
        self.assertIs(is_dice(TWO, FREE, 0, [[1, 1]]), False)
        self.assertIs(is_dice(TWO, FREE, 0, [(0, 0)]), False)
        self.assertIs(is_dice(TWO, FREE, 0, [(Ratio(1), 1)]), False)
        self.assertIs(is_blend(TWO, FREE, 0, ((1, (0,)),)), True)
        self.assertIs(is_blend(TWO, FREE, 0, [(1, (0,)), (2, (0,))]), False)
        self.assertIs(is_blend(TWO, FREE, 0, []), False)
        self.assertIs(is_blend(TWO, FREE, 0, [(0, (0,)), (1, (1,))]), False)
        self.assertIs(is_blend(TWO, FREE, 0, [(1, [0])]), False)
        self.assertIs(is_blend(TWO, FREE, 0, [[1, (0,)]]), False)


class TestBounds(PickCase):
    def test_many_rows(self):
        text = with_rows(64)
        self.assertEqual([eithers(EIGHT, text, 7), picks(EIGHT, text, 7)], [[], [()]])
        self.assertEqual(lot_by(EIGHT, text, 7, ()), (0,) * 8 + (1,))
        self.assertEqual(len(passes_by_dice(EIGHT, text, 7, [])), 64)
        self.assertIs(is_blend(EIGHT, text, 7, [(1, ())]), True)
        for count in (65, 72, 104):
            text = with_rows(count)
            for function in (eithers, picks):
                self.assert_too_many(count, function, EIGHT, text, 7)
            for function in (is_pick, is_dice, is_blend):
                for value in (None, (), [], [(1, ())], 7):
                    self.assert_too_many(count, function, EIGHT, text, 7, value)
            for function, error in JUDGED:
                good = {InvalidPick: (), InvalidDice: [], InvalidBlend: [(1, ())]}[error]
                self.assert_too_many(count, function, EIGHT, text, 7, good)
                for wrong in (None, 7, (0,), [(1, (0,))]):
                    self.assert_raises_with(error, wrong, function, EIGHT, text, 7, wrong)

    def test_wrong_and_right_ones_with_many_rows_and_eithers(self):
        text = ("then", ("either", SKIP, SKIP), with_rows(72))
        self.assert_too_many(73, lot_by, EIGHT, text, 0, (1,))
        self.assert_too_many(73, passes_by_dice, EIGHT, text, 0, [(1, 1)])
        for wrong in ((), []):
            self.assert_raises_with(InvalidPick, wrong, passes_by, EIGHT, text, 0, wrong)
            self.assert_raises_with(InvalidDice, wrong, lot_by_dice, EIGHT, text, 0, wrong)
        self.assert_too_many(73, passes_of_blend, EIGHT, text, 0, [(1, (0,))])

    def test_six_eithers(self):
        self.assertEqual(len(picks(TWO, counted_eithers(6), 0)), 64)
        self.assertEqual(len(picks(TWO, nested_eithers(6), 0)), 64)
        for text, count in [(counted_eithers(7), 7), (nested_eithers(7, COIN), 7), (nested_eithers(11), 11)]:
            self.assert_too_many(count, picks, TWO, text, 0)
            self.assertEqual(len(eithers(TWO, text, 0)), count)
            self.assertIs(is_pick(TWO, text, 0, (0,) * count), True)
            self.assertEqual(passes_by(TWO, text, 0, (0,) * count)[0][1], 1)
        # What many rows tells comes first.
        self.assert_too_many(79, picks, EIGHT, nested_eithers(7, with_rows(72)), 0)

    def test_which_error_comes_first(self):
        functions = [(function, (None,)) for function, _ in JUDGED]
        functions += [(eithers, ()), (picks, ()), (is_pick, (None,)), (is_dice, (None,)), (is_blend, (None,))]
        for function, more in functions:
            self.assert_first_errors(function, *more)


if __name__ == "__main__":
    unittest.main()
