"""Tests of endlots.limits: [121] to [126], with the head of their stage."""

import random
import unittest
from math import gcd

from asking import (
    COIN, EIGHT, FORK, FREE, HEAD, TAKE, TWO, AskCase, counted_eithers, nested_eithers, spoilt, with_rows,
)
from endlots.errors import InvalidLimits, NotKept
from endlots.limits import free_stays, is_fees, is_kept, kept
from endlots.picks import passes_by_dice
from endlots.ratios import Ratio
from endlots.rows import stays
from endlots.spaces import Space
from judges import plain_free_rows, plain_is_fees, plain_is_kept
from odd import any_values
from plain import SKIP, Drawn, PlainScene, shares_of

HANG = ("while", [0, 1], SKIP)
NO_LIMITS = [
    None, {}, "", 0, [None], [()], [("passes", [])], [("passes", [], 1, 1)], [["passes", [], 1]], [("pass", [], 1)],
    [("passes", [TAKE, HEAD], 1)], [("passes", [HEAD, HEAD], 1)], [("passes", HEAD, 1)], [("passes", [((0,), 2)], 1)],
    [("passes", [((1,), 0)], 1)], [("passes", [((), 1)], 1)], [("passes", [[(), 0]], 1)], [("passes", [((), False)], 1)],
    [("passes", [HEAD], -1)], [("passes", [HEAD], None)], [("passes", [HEAD], True)], [("passes", [HEAD], Ratio(-1, 9))],
    [("passes", [0], 1)], [("passes", 0, 1)], [("least", [0], 1)], [("least", 3, 1)], [("least", -1, 1)], [("most", True, 1)],
    [("most", 0, "1")], [("most", Ratio(0), 1)], [("Most", 0, 1)], [(b"most", 0, 1)], [("most", 0, 1)] * 7, [([], 0, 1)],
    [("most", None, 1)], [("least", HEAD, 1)], [(None, [], 1)],
]


class LimitCase(AskCase):
    def limits(self, chance, scene):
        """Limits as chance will have them, many of them near to what picks reach."""
        rows = scene.plain.rows()
        pick = chance.choice(scene.picks())
        lot = shares_of(scene.lot_by(pick))
        passes = dict(scene.passes_by(pick))
        found = []
        for _ in range(chance.choice([0, 1, 1, 2, 2, 3, 4, 6])):
            kind = chance.choice(["passes", "passes", "least", "most"])
            if kind == "passes":
                told = sorted(chance.sample(rows, min(len(rows), chance.randrange(0, 4))))
                near = sum(passes.get(row, 0) or 0 for row in told)
            else:
                told = chance.randrange(scene.never + 1)
                near = lot[told]
            number = Ratio(near.numerator, near.denominator) if near else Ratio(0)
            more = chance.choice([Ratio(0), Ratio(0), Ratio(1, 10 ** 9), Ratio(-1, 10 ** 9), Ratio(1, 7), Ratio(-1, 5), 1])
            if not (number + more).below(0):
                number = number + more
            told = told if kind != "passes" or chance.random() < 0.5 else tuple(told)
            found.append((kind, told, number.top if number.bottom == 1 and chance.random() < 0.5 else number))
        return found + found[:1] if len(found) in (1, 3) and chance.random() < 0.3 else found

    def assert_one_of_both(self, space, text, store, scene, limits):
        """Either a blend keeps the limits or fees forbid, and each judge finds its own good and the other one not."""
        told = self.ask(kept, space, text, store, limits)
        if type(told) is list:
            self.assertTrue(plain_is_kept(scene, limits, told))
            self.assertLessEqual(len(told), len(limits) + 1)
            self.assertEqual(gcd(*[weight for weight, _ in told]), 1)
            self.assertIs(is_kept(space, text, store, limits, told), True)
            self.assertIs(is_kept(space, text, store, tuple(limits), tuple(told)), True)
            self.assertIs(is_fees(space, text, store, limits, told), False)
            return True
        self.assertEqual(told[0], "NotKept")
        fees, table = self.refusal(space, text, store, limits)
        self.assert_numbers(fees + [number for _, number in table])
        self.assertTrue(plain_is_fees(scene, limits, (fees, table)))
        self.assertIs(is_fees(space, text, store, limits, (fees, table)), True)
        self.assertIs(is_fees(space, text, store, limits, (tuple(fees), tuple(table))), True)
        for pick in scene.picks():
            self.assertIs(is_kept(space, text, store, limits, [(1, pick)]), False)
        return False

    @staticmethod
    def refusal(space, text, store, limits):
        try:
            kept(space, text, store, limits)
        except NotKept as error:
            return (error.fees, error.table)
        return None


class TestKept(LimitCase):
    def test_examples(self):
        self.assertEqual(free_stays(TWO, FREE, 0, []), [(HEAD, 0), (TAKE, 0)])
        self.assertEqual(free_stays(TWO, FREE, 0, [("passes", [TAKE], 3)]), [])
        self.assertEqual(kept(TWO, FREE, 0, [("passes", [TAKE], 1), ("most", 1, 1)]), [(1, (1,))])
        self.assertIs(is_kept(TWO, FREE, 0, [("least", 2, 1)], [(1, (0,))]), True)
        limits = [("passes", [TAKE], 3), ("least", 2, Ratio(1, 2))]
        self.assertIs(is_kept(TWO, FREE, 0, limits, [(1, (0,)), (1, (1,))]), False)
        self.assertIs(is_fees(TWO, FREE, 0, limits, ([0, 1], [(HEAD, 0), (TAKE, 0)])), True)
        self.assertFalse(self.assert_one_of_both(TWO, FREE, 0, PlainScene(TWO, FREE, 0), limits))

    def test_by_name(self):
        self.assertEqual(free_stays(space=TWO, text=FREE, store=1, limits=[]), [])
        self.assertEqual(kept(space=TWO, text=FREE, store=1, limits=[]), [(1, ())])
        self.assertIs(is_kept(space=TWO, text=FREE, store=1, limits=[], value=[(1, ())]), True)
        self.assertIs(is_fees(space=TWO, text=FREE, store=1, limits=[], value=([], [])), False)

    def test_against_all_fees_and_blends(self):
        chance = random.Random(701)
        drawn = Drawn(chance)
        seen = {True: 0, False: 0}
        for _ in range(130):
            space, text, store, scene = drawn.scene(chance.randrange(2, 6), most_eithers=4, least_rows=0)
            for _ in range(2):
                limits = self.limits(chance, scene)
                seen[self.assert_one_of_both(space, text, store, scene, limits)] += 1
        self.assertGreater(min(seen.values()), 60)

    def test_edges(self):
        text = ("either", COIN, ("draw", 0, (0, 1), (3, 1)))
        scene = PlainScene(TWO, text, 0)
        for limits, good in [
                ([("least", 0, Ratio(3, 4))], True), ([("least", 0, Ratio(750000001, 10 ** 9))], False),
                ([("most", 0, Ratio(1, 3))], True), ([("most", 0, Ratio(333333333, 10 ** 9))], False),
                ([("least", 0, Ratio(1, 2)), ("most", 0, Ratio(1, 2))], True), ([("most", 2, 0)], True),
                ([("least", 2, Ratio(1, 10 ** 9 - 1))], False), ([("least", 2, 0)], True), ([("most", 0, 0)], False),
                ([("least", 0, 2)], False), ([("most", 0, 5), ("most", 1, 10 ** 9 - 1)], True),
                ([("passes", [((), 0)], 1)], True), ([("passes", [((), 0)], Ratio(999999999, 10 ** 9 - 0))], False),
                ([("passes", [((), 0)], 0)], False), ([("passes", [], 0)], True), ([("passes", [((), 1)], 0)], True),
                ([("passes", [((0,), 0)], 0), ("most", 0, Ratio(1, 2))], False),
                ([("passes", [((0,), 0)], Ratio(3, 5)), ("most", 0, Ratio(1, 2))], True),
                ([("passes", [((0,), 0)], Ratio(599999999, 10 ** 9)), ("most", 0, Ratio(1, 2))], False),
                ([("passes", [((0,), 0), ((1,), 0)], 1), ("passes", [((), 0), ((0,), 0), ((1,), 0)], 2)], True),
                ([("passes", [((0,), 0), ((1,), 0)], Ratio(99, 100))], False), ([("most", 0, Ratio(1, 2))] * 6, True),
                ([("least", 1, Ratio(2, 3))] * 5 + [("least", 0, Ratio(1, 3))], True), ([("least", 1, 1)] * 6, False)]:
            self.assertEqual(self.assert_one_of_both(TWO, text, 0, scene, limits), good, limits)

    def test_passes_without_end(self):
        scene = PlainScene(TWO, FREE, 0)
        for limits, good in [
                ([("passes", [HEAD], 1), ("least", 2, 0)], True), ([("passes", [HEAD], 10 ** 9 - 1), ("most", 1, Ratio(1, 2))], False),
                ([("passes", [TAKE], 10 ** 9 - 1), ("least", 2, Ratio(1, 10 ** 9 - 1))], False),
                ([("passes", [], 0), ("least", 2, 1)], True), ([("passes", [((0,), 1)], 0), ("least", 2, 1)], True)]:
            self.assertEqual(self.assert_one_of_both(TWO, FREE, 0, scene, limits), good, limits)
        # However small the chance: the first draw leads to a round without end of priced rows.
        text = ("then", ("draw", 0, (0, 1), (1, 10 ** 6)), ("while", [0], SKIP))
        limits = [("passes", [((1,), 0)], 10 ** 9 - 1)]
        self.assertFalse(self.assert_one_of_both(TWO, text, 0, PlainScene(TWO, text, 0), limits))
        self.assertIs(is_kept(TWO, text, 0, limits, [(1, ())]), False)
        # A priced row that is passed now and then ahead of a round of free rows.
        limits = [("passes", [((0,), 0)], 1)]
        self.assertTrue(self.assert_one_of_both(TWO, text, 0, PlainScene(TWO, text, 0), limits))
        self.assertFalse(self.assert_one_of_both(TWO, HANG, 0, PlainScene(TWO, HANG, 0), [("passes", [HEAD], 0)]))

    def test_rows_from_which_nobody_ends_have_high_numbers(self):
        # The only way to the store 1 is by a chance of a priced round without end.
        draw = ("draw", 0, (0, 1), (1, 1))
        text = ("either", ("then", draw, ("while", [0], SKIP)), ("set", 0, [0, 0]))
        scene = PlainScene(TWO, text, 0)
        limits = [("passes", [((0, 1), 0)], 9), ("least", 1, Ratio(1, 10 ** 9 - 1))]
        self.assertFalse(self.assert_one_of_both(TWO, text, 0, scene, limits))
        self.assertTrue(self.assert_one_of_both(TWO, text, 0, scene, limits[1:]))
        self.assertTrue(self.assert_one_of_both(TWO, text, 0, scene, limits[:1]))

    def test_priced_rows_that_cost_nothing(self):
        limits = [("passes", [TAKE], 3), ("least", 2, 1)]
        self.assertIs(is_fees(TWO, FREE, 0, limits, ([0, 1], [(HEAD, 0), (TAKE, 0)])), True)
        # At free rows at which one may stay the cost of never binds.
        self.assertIs(is_fees(TWO, FREE, 0, limits[1:], ([1], [(HEAD, 0), (TAKE, 0)])), False)
        self.assertIs(is_fees(TWO, FREE, 0, limits[1:], ([1], [(HEAD, -1), (TAKE, -1)])), False)
        self.assertIs(is_fees(TWO, FREE, 0, [("most", 2, 0), ("most", 1, 0)], ([1, 1], [(HEAD, 1), (TAKE, 1)])), True)
        self.assertIs(is_fees(TWO, FREE, 0, [("most", 2, 0), ("most", 1, 0)], ([1, 1], [(HEAD, 1), (TAKE, Ratio(1))])), True)
        self.assertIs(is_fees(TWO, FREE, 0, [("most", 2, 0), ("most", 1, 0)], ([0, 1], [(HEAD, 1), (TAKE, 1)])), False)

    def test_first_places_that_are_ends(self):
        scene = PlainScene(TWO, SKIP, 0)
        for limits, good in [([], True), ([("least", 0, 1), ("most", 1, 0)], True), ([("most", 0, Ratio(1, 2))], False)]:
            self.assertEqual(self.assert_one_of_both(TWO, SKIP, 0, scene, limits), good)
        self.assertIs(is_fees(TWO, SKIP, 0, [("most", 0, Ratio(1, 2))], ([2], [])), True)
        self.assertIs(is_fees(TWO, SKIP, 0, [("most", 0, Ratio(1, 2))], ([0], [])), False)
        self.assertEqual(free_stays(TWO, SKIP, 0, [("most", 0, 1)]), [])

    def test_no_dice_help(self):
        """[126]: what dice reach, a blend reaches, too."""
        chance = random.Random(702)
        drawn = Drawn(chance)
        seen = 0
        while seen < 40:
            space, text, store, scene = drawn.scene(4, most_eithers=3, least_eithers=1)
            dice = [chance.choice([(1, 1), (1, 2), (3, 1)]) for _ in scene.eithers]
            passes = passes_by_dice(space, text, store, dice)
            lot = scene.lot_by_dice(dice)
            if any(number is None for _, number in passes):
                continue
            seen += 1
            rows = [row for row, _ in passes][:3]
            limits = [("passes", [row], number) for row, number in passes[:3]] if len(rows) < 4 else []
            outcome = chance.randrange(len(lot))
            limits += [("least", outcome, Ratio(lot[outcome], sum(lot))), ("most", outcome, Ratio(lot[outcome], sum(lot)))]
            self.assertTrue(self.assert_one_of_both(space, text, store, scene, limits))


class TestFreeStays(LimitCase):
    def test_against_the_words(self):
        chance = random.Random(703)
        drawn = Drawn(chance)
        less = 0
        for _ in range(120):
            space, text, store, scene = drawn.scene(chance.randrange(2, 6), least_rows=1)
            limits = self.limits(chance, scene)
            told = self.ask(free_stays, space, text, store, limits)
            rows = plain_free_rows(scene, limits)
            self.assertEqual([row for row, _ in told], sorted(rows))
            for row, at in told:
                good = [k for k, move in enumerate(scene.moves[row]) if all(place in rows for place, _ in move)]
                self.assertEqual(at, good[0])
            known = stays(space, text, store)
            less += len(rows) < len(scene.staying())
            self.assertTrue(set(rows) <= {row for row, _ in known})
            if not any(kind == "passes" and told for kind, told, _ in limits):
                self.assertEqual(rows, scene.staying())
        self.assertGreater(less, 5)

    def test_one_of_several_rounds_is_priced(self):
        text = ("while", [0], ("either", ("while", [0], SKIP), SKIP))
        inner = ((0, 0), 0)
        self.assertEqual(free_stays(TWO, text, 0, []), [(HEAD, 0), (TAKE, 0), (inner, 0)])
        self.assertEqual(free_stays(TWO, text, 0, [("passes", [inner], 0)]), [(HEAD, 0), (TAKE, 1)])
        self.assertEqual(free_stays(TWO, text, 0, [("passes", [HEAD], 0), ("passes", [], 1)]), [(TAKE, 0), (inner, 0)])
        self.assertEqual(free_stays(TWO, text, 0, [("passes", (HEAD, inner), 0)]), [])


class TestJudged(LimitCase):
    def test_spoilt(self):
        chance = random.Random(704)
        drawn = Drawn(chance, weights=((1, 1), (1, 2)))
        seen = {True: 0, False: 0}
        while min(seen.values()) < 7:
            space, text, store, scene = drawn.scene(4, most_rows=5, most_eithers=2, least_eithers=1)
            limits = self.limits(chance, scene)[:3]
            good = self.refusal(space, text, store, limits) is None
            if seen[good] > 9 or not limits:
                continue
            seen[good] += 1
            if good:
                for value in [kept(space, text, store, limits), [(1, pick) for pick in scene.picks()]]:
                    for other in spoilt(value):
                        told = is_kept(space, text, store, limits, other)
                        self.assertIs(told, plain_is_kept(scene, limits, other), other)
            else:
                for other in spoilt(self.refusal(space, text, store, limits)):
                    told = is_fees(space, text, store, limits, other)
                    self.assertIs(told, plain_is_fees(scene, limits, other), other)

    def test_any_values(self):
        limits = [("passes", [TAKE], 3), ("least", 2, Ratio(1, 2))]
        for text, store in [(SKIP, 0), (FREE, 0), (COIN, 0)]:
            rows = limits if text is FREE else [("most", 0, Ratio(1, 9))]
            scene = PlainScene(TWO, text, store)
            for value in any_values():
                for other in [value, [value], (value, value), ([value] * len(rows), []), ([1] * len(rows), value), [(1, value)],
                              ([1] * len(rows), [(row, value) for row in scene.rows]), [(value, ())]]:
                    self.assertIs(is_kept(TWO, text, store, rows, other), plain_is_kept(scene, rows, other))
                    self.assertIs(is_fees(TWO, text, store, rows, other), plain_is_fees(scene, rows, other))

    def test_numbers_of_any_size(self):
        limits = [("least", 0, 1)]
        large = 10 ** 3000
        self.assertIs(is_fees(TWO, FREE, 0, limits, ([large], [(HEAD, 0), (TAKE, 0)])), True)
        self.assertIs(is_fees(TWO, FREE, 0, limits, ([Ratio(1, large)], [(HEAD, 0), (TAKE, 0)])), True)
        self.assertIs(is_fees(TWO, FREE, 0, limits, ([Ratio(1, large)], [(HEAD, Ratio(-1, large)), (TAKE, 0)])), False)
        self.assertIs(is_kept(TWO, FREE, 0, [("least", 1, 1)], [(large, (1,))]), True)
        self.assertIs(is_kept(TWO, FREE, 0, [("least", 1, 1)], [(large, (1,)), (1, (0,))]), False)

    def test_more_picks_than_kept_tells(self):
        six = nested_eithers(6)
        every = [(1, pick) for pick in PlainScene(TWO, six, 0).picks()]
        self.assertIs(is_kept(TWO, six, 0, [("passes", [((), 0)], 1)], every), True)
        self.assertIs(is_kept(TWO, six, 0, [("passes", [((0,), 0)], Ratio(1, 2))], every), True)
        self.assertIs(is_kept(TWO, six, 0, [("passes", [((0,), 0)], Ratio(49, 100))], every), False)


class TestBounds(LimitCase):
    def test_wrong_limits(self):
        for limits in NO_LIMITS:
            for function, more in [(free_stays, ()), (kept, ()), (is_kept, (None,)), (is_fees, (None,))]:
                self.assert_raises_with(InvalidLimits, limits, function, TWO, FREE, 0, limits, *more)
        # Behind the other arguments, and ahead of TooMany.
        for function, more in [(free_stays, ()), (kept, ()), (is_kept, (None,)), (is_fees, (None,))]:
            self.assert_first_errors(function, None, *more)
            self.assert_raises_with(InvalidLimits, NO_LIMITS, function, EIGHT, with_rows(72), 0, NO_LIMITS, *more)
        for value in any_values():
            if value not in ([], ()):
                self.assert_raises_with(InvalidLimits, value, kept, TWO, FREE, 0, value)

    def test_rows_of_the_text_that_are_not_met(self):
        limits = [("passes", [((0,), 1), ((0, 1, 0), 0)], 0)]
        text = ("while", [0], ("either", SKIP, ("either", FORK, SKIP)))
        self.assertEqual(kept(TWO, text, 1, limits), [(1, ())])

    def test_rows(self):
        self.assertEqual(len(free_stays(EIGHT, with_rows(64), 0, [])), 64)
        self.assertEqual(kept(EIGHT, with_rows(64), 0, [("least", 8, 1)]), [(1, ())])
        for count in (65, 72, 104):
            text = with_rows(count)
            for function, more in [(free_stays, ()), (kept, ()), (is_kept, ([(1, ())],)), (is_fees, (None,))]:
                self.assert_too_many(count, function, EIGHT, text, 0, [], *more)

    def test_eithers(self):
        limits = [("most", 0, 1)] * 6
        self.assertEqual(kept(TWO, counted_eithers(6), 0, limits), [(1, (0,) * 6)])
        for text, count in [(counted_eithers(7), 7), (nested_eithers(11), 11)]:
            self.assert_too_many(count, kept, TWO, text, 0, limits)
            self.assertEqual(free_stays(TWO, text, 0, limits), [])
            self.assertIs(is_kept(TWO, text, 0, limits, [(3, (0,) * count)]), True)
            self.assertIs(is_fees(TWO, text, 0, limits, None), False)
        self.assert_too_many(79, kept, EIGHT, nested_eithers(7, with_rows(72)), 0, [])
        # TooMany comes ahead of NotKept.
        self.assert_too_many(7, kept, TWO, counted_eithers(7), 0, [("most", 0, 0)])

    def test_large_numbers(self):
        text = ("while", [0, 1, 2], ("then", ("draw", 0, (0, 1), (999983, 999979)), ("either", ("set", 0, [1, 2, 3, 3]), COIN)))
        space = Space([4])
        scene = PlainScene(space, text, 0)
        rows = [row for row in scene.plain.rows() if row[0] == ()]
        for number in (Ratio(999999999, 10 ** 9 - 1), Ratio(29, 10), 3, Ratio(10 ** 9 - 1, 7)):
            limits = [("passes", rows, number), ("least", 3, Ratio(1, 10 ** 9 - 1))]
            self.assert_one_of_both(space, text, 0, scene, limits)


if __name__ == "__main__":
    unittest.main()
