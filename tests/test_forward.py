"""Tests of endlots.forward: [5], [7] and [81] to [86], with the head of their stage."""

import random
import unittest
from itertools import product
from math import gcd

from asking import (
    COIN, EIGHT, FORK, FREE, HEAD, TAKE, TWO, AskCase, counted_eithers, nested_eithers, spoilt, with_rows,
)
from endlots.backward import table
from endlots.courses import behind
from endlots.errors import InvalidLot, NotBrought, Outside
from endlots.forward import brought, ends, is_against, is_brought
from endlots.hulls import corners, shares_in
from endlots.lots import as_lot
from endlots.picks import lot_by_dice, picks
from endlots.ratios import Ratio
from endlots.spaces import Space
from endlots.texts import is_text
from odd import any_values
from plain import (
    SKIP, Drawn, PlainScene, fraction, mix, plain_is_against, plain_is_brought, place_numbers,
)
from test_courses import by_history
from test_lots import NO_LOTS, drawn_lot
from test_picks import BIASED


def refusal(space, text, store, lot):
    """What brought raises, or None."""
    try:
        brought(space, text, store, lot)
    except NotBrought as error:
        return (error.payoff, error.table)
    return None


def replaced_lots(lot, ends_of, never):
    """All lots that come of a lot if each store in it is replaced by one of the lots told for this store."""
    weights = [weight for weight in lot if weight]
    offered = [ends_of(outcome) if outcome != never else [sure(never, never)] for outcome, weight in enumerate(lot) if weight]
    return [mix(list(chosen), weights) for chosen in product(*offered)]


def sure(outcome, never):
    return tuple(int(at == outcome) for at in range(never + 1))


class ForwardCase(AskCase):
    def assert_blend(self, scene, lot, blend):
        self.assertIs(type(blend), list)
        self.assertTrue(plain_is_brought(scene, lot, blend))
        self.assertLessEqual(len(blend), scene.never + 1)
        self.assertEqual(gcd(*[weight for weight, _ in blend]), 1)

    def assert_paper(self, scene, lot, payoff, told):
        self.assertIs(type(payoff), list)
        self.assertIs(type(told), list)
        self.assertTrue(plain_is_against(scene, lot, (payoff, told)))
        self.assert_numbers([number for _, number in told])

    def assert_one_of_both(self, space, text, store, scene, lot):
        """Either there is a blend or there is a paper, and each judge finds its own good and the other one not."""
        told = self.ask(brought, space, text, store, lot)
        if type(told) is list:
            self.assert_blend(scene, lot, told)
            self.assertIs(is_brought(space, text, store, lot, told), True)
            self.assertIs(is_against(space, text, store, lot, told), False)
            return True
        self.assertEqual(told[0], "NotBrought")
        payoff, numbers = refusal(space, text, store, lot)
        self.assert_paper(scene, lot, payoff, numbers)
        self.assertIs(is_against(space, text, store, lot, (payoff, numbers)), True)
        self.assertIs(is_against(space, text, store, lot, (tuple(payoff), tuple(numbers))), True)
        self.assertIs(is_brought(space, text, store, lot, (payoff, numbers)), False)
        return False


class TestEnds(ForwardCase):
    def test_examples(self):
        self.assertEqual([ends(TWO, FREE, 0), ends(TWO, FREE, 1)], [[(0, 0, 1), (0, 1, 0)], [(0, 1, 0)]])
        self.assertEqual(brought(TWO, FREE, 0, (0, 1, 0)), [(1, (1,))])
        self.assertIs(is_brought(TWO, FREE, 0, (0, 1, 1), [(1, (0,)), (1, (1,))]), True)
        self.assertIs(is_brought(TWO, FREE, 0, (0, 1, 1), [(2, (0,)), (1, (1,))]), False)
        self.assertIs(is_against(TWO, FREE, 0, (1, 1, 0), ([1, 0, 0], [(HEAD, 0), (TAKE, 0)])), True)

    def test_by_name(self):
        self.assertEqual(ends(space=TWO, text=FREE, store=1), [(0, 1, 0)])
        self.assertEqual(brought(space=TWO, text=FREE, store=1, lot=(0, 1, 0)), [(1, ())])
        self.assertIs(is_brought(space=TWO, text=FREE, store=1, lot=(0, 1, 0), value=[(5, ())]), True)
        self.assertIs(is_against(space=TWO, text=FREE, store=1, lot=(1, 0, 0), value=([1, 0, 0], [])), True)

    def test_small(self):
        for text, store, told in [
                (SKIP, 0, [(1, 0, 0)]), (COIN, 1, [(1, 2, 0)]), (FORK, 0, [(0, 1, 0), (1, 0, 0)]), (FORK, 1, [(0, 1, 0)]),
                (("while", [0], SKIP), 0, [(0, 0, 1)]), (("while", [0, 1], FORK), 1, [(0, 0, 1)]),
                (("either", COIN, FORK), 0, [(0, 1, 0), (1, 0, 0)]), (("either", COIN, ("while", [0], SKIP)), 0, [(0, 0, 1), (1, 2, 0)]),
                # A chance to end each time ends at last; to stay has to be chosen without end.
                (("while", [0], ("either", COIN, COIN)), 0, [(0, 1, 0)]),
                (("while", [0], ("either", SKIP, COIN)), 0, [(0, 0, 1), (0, 1, 0)]),
                (("then", FREE, COIN), 0, [(0, 0, 1), (1, 2, 0)])]:
            self.assertEqual(self.ask(ends, TWO, text, store), told, text)

    def test_against_all_picks(self):
        chance = random.Random(401)
        drawn = Drawn(chance, weights=BIASED)
        for _ in range(80):
            space, text, store, scene = drawn.scene(chance.randrange(2, 6), most_eithers=4, least_rows=0)
            told = self.ask(ends, space, text, store)
            lots = {scene.lot_by(pick) for pick in scene.picks()}
            self.assertEqual(told, corners(sorted(lots)))
            self.assertEqual(told, sorted(told))
            self.assertTrue(set(told) <= lots)
            for lot in lots:
                shares_in(told, lot)
            for lot in told:
                others = [other for other in told if other != lot]
                if others:
                    self.assertRaises(Outside, shares_in, others, lot)

    def test_by_the_parts_of_a_text(self):
        """[85]"""
        chance = random.Random(402)
        drawn = Drawn(chance, sizes=(3,))
        seen = 0
        space = Space([3])
        while seen < 40:
            one, other = drawn.text(space, 2), drawn.text(space, 2)
            guard = drawn.stores(space)
            whole = ("while", guard, one)
            texts = [("either", one, other), ("if", guard, one, other), ("then", one, other), ("then", one, whole)]
            scenes = [PlainScene(space, text, store) for text in texts for store in range(3)]
            if not all(len(scene.eithers) <= 6 for scene in scenes) or not any(scene.eithers for scene in scenes):
                continue
            if not all(is_text(space, text) for text in texts):
                continue
            seen += 1
            either, choice, both, round_again = texts
            for store in range(3):
                told = ends(space, one, store), ends(space, other, store)
                self.assertEqual(ends(space, either, store), corners(told[0] + told[1]))
                self.assertEqual(ends(space, choice, store), told[0] if store in guard else told[1])
                found = [lot for lot in told[0] for lot in replaced_lots(lot, lambda end: ends(space, other, end), 3)]
                self.assertEqual(ends(space, both, store), corners_of_many(found))
                expected = ends(space, round_again, store) if store in guard else [sure(store, 3)]
                self.assertEqual(ends(space, whole, store), expected)

    def test_dice_and_memory_bring_nothing_else(self):
        """[7], [86]"""
        chance = random.Random(403)
        drawn = Drawn(chance)
        for _ in range(40):
            space, text, store, scene = drawn.scene(4, most_eithers=4, least_eithers=1)
            dice = [chance.choice([(1, 1), (2, 1), (1, 9), (1, 0)]) for _ in scene.eithers]
            lot = lot_by_dice(space, text, store, dice)
            self.assertTrue(self.assert_one_of_both(space, text, store, scene, lot))
            payoff = [chance.randrange(-9, 10) for _ in lot]
            numbers = place_numbers(payoff, table(space, text, store, payoff))
            for steps in range(5):
                told = behind(space, text, store, by_history, steps)
                self.assertLessEqual(sum(numbers[place] * fraction(share) for place, share in told), numbers[scene.place])


def corners_of_many(lots):
    """The corners of lots, of which there may be more than 64."""
    left = sorted(set(lots))
    while len(left) > 64:
        left = sorted(set(corners(left[:64]) + left[64:]))
    return corners(left)


class TestBrought(ForwardCase):
    def test_blends_and_papers(self):
        chance = random.Random(404)
        drawn = Drawn(chance, weights=BIASED)
        seen = {True: 0, False: 0}
        for _ in range(70):
            space, text, store, scene = drawn.scene(chance.randrange(2, 6), most_eithers=4, least_rows=0)
            lots = [scene.lot_by(pick) for pick in scene.picks()]
            inside = mix(lots, [chance.randrange(0, 9) for _ in lots[1:]] + [1])
            near = mix([inside, drawn_lot(chance, len(space) + 1, 1)], [10 ** 30, 1])
            for lot in (inside, chance.choice(lots), near, drawn_lot(chance, len(space) + 1, 2)):
                seen[self.assert_one_of_both(space, text, store, scene, lot)] += 1
            self.assertTrue(plain_is_brought(scene, inside, brought(space, text, store, inside)))
        self.assertGreater(min(seen.values()), 60)

    def test_many_corners_take_few_picks(self):
        space = Space([2, 2])
        fork = ("either", ("set", 0, [0] * 4), ("set", 0, [1] * 4))
        text = ("then", ("draw", 1, (0, 1), (1, 1)), ("then", fork, ("draw", 1, (0, 1), (1, 3))))
        scene = PlainScene(space, text, 0)
        for lot in [scene.lot_by(pick) for pick in scene.picks()] + [(3, 5, 1, 3, 0)]:
            self.assert_one_of_both(space, text, 0, scene, lot)
        six = counted_eithers(6, SKIP)
        self.assertEqual(len(brought(TWO, six, 0, (1, 0, 0))), 1)

    def test_first_places_that_are_ends(self):
        scene = PlainScene(TWO, SKIP, 0)
        self.assertEqual(self.ask(brought, TWO, SKIP, 0, (1, 0, 0)), [(1, ())])
        for lot in [(0, 1, 0), (0, 0, 1), (1, 1, 0), (10 ** 60, 0, 1)]:
            payoff, numbers = refusal(TWO, SKIP, 0, lot)
            self.assertEqual(numbers, [])
            self.assert_paper(scene, lot, payoff, numbers)
        self.assertIs(is_against(TWO, SKIP, 0, (0, 1, 0), ([0, 1, 0], [])), True)
        self.assertIs(is_against(TWO, SKIP, 0, (0, 1, 0), ((0, 1, 0), ())), True)
        self.assertIs(is_against(TWO, SKIP, 0, (0, 1, 0), ([1, 1, 0], [])), False)
        self.assertIs(is_against(TWO, SKIP, 0, (0, 1, 0), ([0, 1, 0], [(HEAD, 0)])), False)

    def test_large_lots(self):
        for lot in [(0, 10 ** 300, 1), (1, 10 ** 300, 0), (10 ** 300 - 1, 0, 10 ** 300)]:
            scene = PlainScene(TWO, FREE, 0)
            self.assertEqual(self.assert_one_of_both(TWO, FREE, 0, scene, lot), lot[0] == 0)

    def test_spoilt(self):
        chance = random.Random(405)
        drawn = Drawn(chance, weights=((1, 1), (1, 2)))
        for _ in range(14):
            space, text, store, scene = drawn.scene(4, most_rows=6, most_eithers=3, least_eithers=1)
            lots = [scene.lot_by(pick) for pick in scene.picks()]
            inside = mix(lots, [1] * len(lots))
            for value in [[(1, pick) for pick in scene.picks()], brought(space, text, store, inside)]:
                self.assertIs(is_brought(space, text, store, inside, value), True)
                for other in spoilt(value):
                    self.assertIs(is_brought(space, text, store, inside, other), plain_is_brought(scene, inside, other), other)
            outside = sure(store, len(space)) if scene.place != store else sure(len(space), len(space))
            paper = refusal(space, text, store, outside)
            if paper is not None:
                for other in spoilt(paper):
                    good = plain_is_against(scene, outside, other)
                    self.assertIs(is_against(space, text, store, outside, other), good, other)

    def test_numbers_of_any_size(self):
        large = 10 ** 3900
        paper = ([large, 0, 0], [(HEAD, 0), (TAKE, Ratio(0))])
        self.assertIs(is_against(TWO, FREE, 0, (1, 0, 0), paper), True)
        self.assertIs(is_against(TWO, FREE, 0, (1, 0, large), paper), True)
        for more, good in [(large, False), (large - 1, False), (large - 2, True)]:
            self.assertIs(is_against(TWO, FREE, 0, (1, 0, more), (paper[0], [(HEAD, 1), (TAKE, 1)])), good)
        half = Ratio(large, 2)
        for number, good in [(half, False), (half - Ratio(1, large), True)]:
            self.assertIs(is_against(TWO, FREE, 0, (1, 0, 1), (paper[0], [(HEAD, number), (TAKE, number)])), good)
        self.assertIs(is_brought(TWO, FREE, 0, (0, large, 1), [(1, (0,)), (large, (1,))]), True)
        self.assertIs(is_brought(TWO, FREE, 0, (0, large, 1), [(1, (0,)), (large + 1, (1,))]), False)

    def test_never_binds_only_where_one_may_stay(self):
        # At rows of R the number is at least never's payoff; elsewhere it may be below.
        text = ("then", COIN, ("while", [0], SKIP))
        rows = [((0,), 0), ((1,), 0)]
        self.assertIs(is_against(TWO, text, 0, (0, 0, 1), ([0, -9, 3], [(rows[0], -5), (rows[1], 3)])), True)
        self.assertIs(is_against(TWO, text, 0, (0, 0, 1), ([0, -9, 3], [(rows[0], -5), (rows[1], 2)])), False)
        self.assertIs(is_against(TWO, text, 0, (0, 0, 1), ([0, -9, 3], [(rows[0], -6), (rows[1], 3)])), False)
        self.assertIs(is_against(TWO, FREE, 0, (1, 0, 0), ([9, 0, 3], [(HEAD, 2), (TAKE, 2)])), False)
        self.assertIs(is_against(TWO, FREE, 0, (1, 0, 0), ([9, 0, 3], [(HEAD, 3), (TAKE, 3)])), True)
        self.assertIs(is_against(TWO, FREE, 0, (1, 0, 0), ([9, 0, 3], [(HEAD, 9), (TAKE, 3)])), False)

    def test_any_values(self):
        for value in any_values():
            for text, store in [(SKIP, 0), (FREE, 0), (COIN, 1)]:
                self.assertIs(is_brought(TWO, text, store, (1, 0, 0), value), False)
                self.assertIs(is_against(TWO, text, store, (1, 0, 0), value), False)
                self.assertIs(is_brought(TWO, text, store, (1, 0, 0), [value]), False)
                self.assertIs(is_against(TWO, text, store, (1, 0, 0), (value, [])), False)
                self.assertIs(is_against(TWO, text, store, (1, 0, 0), (value, value)), False)
            told = is_against(TWO, SKIP, 0, (0, 1, 0), ([0, 1, 0], value))
            self.assertIs(told, isinstance(value, (list, tuple)) and len(value) == 0)
            for numbers in ([value, (TAKE, 0)], [(value, 0), (TAKE, 0)], [(HEAD, value), (TAKE, 0)]):
                told = is_against(TWO, FREE, 0, (1, 0, 0), ([10 ** 90, 0, 0], numbers))
                good = plain_is_against(PlainScene(TWO, FREE, 0), (1, 0, 0), ([10 ** 90, 0, 0], numbers))
                self.assertIs(told, good)


class TestBounds(ForwardCase):
    def test_rows(self):
        self.assertEqual(ends(EIGHT, with_rows(64), 0), [sure(8, 8)])
        self.assertEqual(brought(EIGHT, with_rows(64), 0, sure(8, 8)), [(1, ())])
        for count in (65, 72):
            text = with_rows(count)
            self.assert_too_many(count, ends, EIGHT, text, 0)
            self.assert_too_many(count, brought, EIGHT, text, 0, sure(8, 8))
            self.assert_too_many(count, brought, EIGHT, text, 0, sure(1, 8))
            self.assertIs(is_brought(EIGHT, text, 0, sure(8, 8), [(1, ())]), True)
            self.assertIs(is_brought(EIGHT, text, 0, sure(7, 8), [(1, ())]), False)
            scene = PlainScene(EIGHT, text, 0)
            paper = ([0] * 7 + [1, 0], [(row, 0) for row in scene.rows])
            self.assertIs(is_against(EIGHT, text, 0, sure(7, 8), paper), True)
            self.assertIs(is_against(EIGHT, text, 0, sure(8, 8), paper), False)
            self.assertIs(is_against(EIGHT, text, 0, sure(7, 8), (paper[0], paper[1][1:])), False)

    def test_eithers(self):
        self.assertEqual(ends(TWO, counted_eithers(6), 0), [(1, 0, 0)])
        self.assertEqual(brought(TWO, nested_eithers(6, COIN), 0, (1, 2, 0)), [(1, (0,) * 6)])
        for text, count in [(counted_eithers(7), 7), (nested_eithers(9), 9), (nested_eithers(7, COIN), 7)]:
            self.assert_too_many(count, ends, TWO, text, 0)
            self.assert_too_many(count, brought, TWO, text, 0, (1, 0, 0))
            self.assert_too_many(count, brought, TWO, text, 0, (0, 0, 1))
            self.assertIs(is_brought(TWO, text, 0, (1, 0, 0), [(3, (1,) * count)]), True)
        self.assert_too_many(79, ends, EIGHT, nested_eithers(7, with_rows(72)), 0)

    def test_which_error_comes_first(self):
        many = with_rows(72)
        for function, more in [(ends, ()), (brought, (None,)), (is_brought, (None, None)), (is_against, (None, None))]:
            self.assert_first_errors(function, *more)
            if more:
                for lot in NO_LOTS + [value for value in any_values()] + [(1, 0), (1, 0, 0, 0)]:
                    self.assert_raises_with(InvalidLot, lot, function, TWO, FREE, 0, lot, *more[1:])
                wrong = (1, 0, 0)
                self.assert_raises_with(InvalidLot, wrong, function, EIGHT, many, 0, wrong, *more[1:])

    def test_equal_answers(self):
        for lot in [(0, 3, 1), (1, 0, 0), (1, 1, 1)]:
            self.ask(brought, TWO, FREE, 0, lot)
        lot = as_lot(TWO, [0, Ratio(1, 3), Ratio(2, 3)])
        self.assertEqual(brought(TWO, FREE, 0, lot), [(2, (0,)), (1, (1,))])
        self.assertEqual(len(picks(TWO, FREE, 0)), 2)


if __name__ == "__main__":
    unittest.main()
