"""Tests of endlots.times: [111] to [115], with the head of their stage."""

import random
import unittest
from fractions import Fraction

from asking import COIN, EIGHT, FREE, HEAD, TAKE, TWO, AskCase, counted_eithers, nested_eithers, spoilt, with_rows
from endlots.errors import MayStay, TwoLots
from endlots.forward import ends
from endlots.ratios import Ratio
from endlots.spaces import Space
from endlots.times import (
    always_ends, falling, is_falling, is_may_stay, is_one_lot, is_two_lots, never_most, one_lot, worst,
)
from odd import any_values
from plain import (
    SKIP, Drawn, PlainScene, fraction, is_listed, is_lot_value, is_number, mix, plain_is_pick, plain_is_sides, same_row,
)
from test_picks import BIASED

TOSS = ("while", [0], ("draw", 0, (0, 1), (1, 1)))
PLAIN = (always_ends, falling, worst, never_most, one_lot)
JUDGES = (is_falling, is_may_stay, is_one_lot, is_two_lots)


def plain_is_falling(scene, value):
    if not is_listed(value, scene.rows, 2) or not all(is_number(number) for _, number in value):
        return False
    numbers = {store: Fraction(0) for store in range(scene.never)}
    numbers.update({row: fraction(number) for row, number in value})
    return all(
        numbers[row] >= 1 + scene.mean_of(move, numbers) for row in scene.rows for move in scene.moves[row])


def plain_is_may_stay(scene, value):
    if type(value) is not tuple or len(value) != 2 or not all(isinstance(part, (list, tuple)) for part in value):
        return False
    way, rows = value
    if not all(any(same_row(item, row) for row in scene.rows) for item in list(way) + list(rows)):
        return False
    if list(rows) != sorted(set(rows)) or not way or way[0] != scene.place or way[-1] not in rows:
        return False
    for one, other in zip(way, way[1:]):
        if not any(place == other for move in scene.moves[one] for place, _ in move):
            return False
    return all(any(scene.is_among(move, rows) for move in scene.moves[row]) for row in rows)


def plain_is_one_lot(scene, value):
    if not is_listed(value, scene.rows, 2) or not all(is_lot_value(lot, scene.never + 1) for _, lot in value):
        return False
    lots = {outcome: tuple(int(at == outcome) for at in range(scene.never + 1)) for outcome in range(scene.never + 1)}
    lots.update(dict(value))
    for row in scene.rows:
        for move in scene.moves[row]:
            if mix([lots[place] for place, _ in move], [weight for _, weight in move]) != lots[row]:
                return False
    return all(lots[row] == lots[scene.never] for row in scene.staying())


def plain_is_two_lots(scene, value):
    if type(value) is not tuple or len(value) != 2 or not all(plain_is_pick(scene, pick) for pick in value):
        return False
    return scene.lot_by(value[0]) != scene.lot_by(value[1])


def lengths(scene, pick):
    """For each row the mean number of rows passed from there on by a pick; the text has to end."""
    found = {}
    for row in scene.rows:
        scene.place, kept = row, scene.place
        found[row] = sum(number for _, number in scene.passes_by(pick))
        scene.place = kept
    return found


def by_both(seconds):
    """A tuple (stays, ends): drawn texts in which one may stay, and such as always end."""
    return [one for one in seconds if one[3].staying()], [one for one in seconds if not one[3].staying()]


class TimeCase(AskCase):
    def drawn_scenes(self, seed, count, least_rows=1, most_eithers=4, **more):
        chance = random.Random(seed)
        drawn = Drawn(chance, **more)
        return [
            drawn.scene(chance.randrange(2, 6), most_eithers=most_eithers, least_rows=least_rows) for _ in range(count)]

    def assert_way(self, space, text, store, scene):
        """falling and worst raise MayStay with all rows of R and a way to one of them."""
        for function in (falling, worst):
            name, rows, way = self.ask(function, space, text, store)
            self.assertEqual(name, "MayStay")
            self.assertEqual(rows, scene.staying())
            self.assertIs(type(rows), list)
            self.assertIs(type(way), list)
            self.assertTrue(plain_is_may_stay(scene, (way, rows)))
            self.assertIs(is_may_stay(space, text, store, (way, rows)), True)
            self.assertIs(is_may_stay(space, text, store, (tuple(way), tuple(rows))), True)
        return way, rows


class TestFalling(TimeCase):
    def test_examples(self):
        head, toss = HEAD, TAKE
        self.assertEqual(falling(TWO, TOSS, 0), [(head, 4), (toss, 3)])
        self.assertEqual([worst(TWO, TOSS, 0), one_lot(TWO, TOSS, 1)], [(4, []), []])
        self.assertIs(is_falling(TWO, TOSS, 0, [(head, 5), (toss, 3)]), False)
        self.assertEqual(one_lot(TWO, TOSS, 0)[0][1], (0, 1, 0))
        self.assertIs(always_ends(TWO, FREE, 0), False)
        self.assertEqual(never_most(TWO, FREE, 0)[0], 1)
        self.assertIs(is_two_lots(TWO, FREE, 0, ((0,), (1,))), True)
        self.assertIs(is_may_stay(TWO, FREE, 0, ([head], [head, toss])), True)

    def test_by_name(self):
        arguments = {"space": TWO, "text": TOSS, "store": 0}
        told = [function(**arguments) for function in PLAIN]
        self.assertEqual(told[:3], [True, [(HEAD, 4), (TAKE, 3)], (4, [])])
        self.assertEqual(told[3:], [(0, [], [(HEAD, 0), (TAKE, 0)]), [(HEAD, (0, 1, 0)), (TAKE, (0, 1, 0))]])
        for judge, value, good in zip(JUDGES, [told[1], ([HEAD], [HEAD]), told[4], ((), ())], [True, False, True, False]):
            self.assertIs(judge(value=value, **arguments), good)

    def test_always_ends(self):
        for text, store, good in [
                (SKIP, 0, True), (COIN, 0, True), (FREE, 0, False), (FREE, 1, True), (("while", [0], SKIP), 0, False),
                (("while", [0], COIN), 0, True), (("while", [0, 1], COIN), 0, False), (("either", SKIP, FREE), 0, False),
                (("then", ("draw", 0, (0, 1), (10 ** 6, 1)), ("while", [1], SKIP)), 0, False),
                (("while", [0], ("draw", 0, (0, 1), (10 ** 6, 1))), 0, True), (("if", [1], ("while", [1], SKIP), SKIP), 0, True)]:
            self.assertIs(self.ask(always_ends, TWO, text, store), good, text)

    def test_least_falling_numbers_against_all_picks(self):
        _, surely = by_both(self.drawn_scenes(601, 220, weights=BIASED))
        self.assertGreater(len(surely), 60)
        for space, text, store, scene in surely:
            self.assertIs(always_ends(space, text, store), True)
            numbers = [lengths(scene, pick) for pick in scene.picks()]
            told = self.ask(falling, space, text, store)
            most = [(row, max(one[row] for one in numbers)) for row in scene.rows]
            self.assertEqual([(row, fraction(number)) for row, number in told], most)
            self.assert_numbers([number for _, number in told])
            self.assertTrue(plain_is_falling(scene, told))
            self.assertIs(is_falling(space, text, store, told), True)
            self.assertTrue(all(fraction(number) >= 1 for _, number in told))
            number, sides = self.ask(worst, space, text, store)
            self.assert_numbers([number])
            self.assertEqual(fraction(number), dict(most)[scene.place])
            self.assertTrue(plain_is_sides(scene, sides))
            self.assertEqual(list(lengths(scene, [side for _, side in sides]).items()), most)

    def test_ways_where_one_may_stay(self):
        staying, _ = by_both(self.drawn_scenes(602, 120))
        self.assertGreater(len(staying), 30)
        for space, text, store, scene in staying:
            self.assertIs(always_ends(space, text, store), False)
            self.assert_way(space, text, store, scene)
            numbers = [(row, 10 ** 9 - at) for at, row in enumerate(scene.rows)]
            self.assertIs(is_falling(space, text, store, numbers), False)

    def test_each_pass_counts(self):
        # Two moves of equal means, a longer one and a round that is taken again and again.
        text = ("while", [0], ("either", ("draw", 0, (0, 1), (3, 1)), ("then", COIN, COIN)))
        scene = PlainScene(TWO, text, 0)
        told = falling(TWO, text, 0)
        self.assertEqual(told[0], (HEAD, 12))
        self.assertEqual(worst(TWO, text, 0), (12, [(TAKE, 0)]))
        self.assertEqual(max(lengths(scene, pick)[HEAD] for pick in scene.picks()), 12)
        rare = ("while", [0], ("draw", 0, (0, 1), (10 ** 6, 1)))
        self.assertEqual(falling(TWO, rare, 0), [(HEAD, 2 * 10 ** 6 + 2), (TAKE, 2 * 10 ** 6 + 1)])

    def test_no_rows(self):
        for text, store in [(SKIP, 0), (FREE, 1), (("while", [], FREE), 0)]:
            self.assertEqual(always_ends(TWO, text, store), True)
            self.assertEqual([falling(TWO, text, store), one_lot(TWO, text, store)], [[], []])
            self.assertEqual([worst(TWO, text, store), never_most(TWO, text, store)], [(0, []), (0, [], [])])
            self.assert_numbers([worst(TWO, text, store)[0], never_most(TWO, text, store)[0]])
            self.assertIs(is_falling(TWO, text, store, []), True)
            self.assertIs(is_one_lot(TWO, text, store, ()), True)
            self.assertIs(is_two_lots(TWO, text, store, ((), ())), False)
            self.assertIs(is_may_stay(TWO, text, store, ([], [])), False)
            self.assertIs(is_may_stay(TWO, text, store, ([store], [store])), False)

    def test_spoilt(self):
        for space, text, store, scene in by_both(self.drawn_scenes(603, 60, least_rows=2, weights=((1, 1), (1, 2))))[1][:12]:
            if len(scene.rows) < 8:
                for other in spoilt(falling(space, text, store)):
                    self.assertIs(is_falling(space, text, store, other), plain_is_falling(scene, other), other)

    def test_numbers_that_are_not_the_least(self):
        self.assertIs(is_falling(TWO, TOSS, 0, [(HEAD, Ratio(9, 2)), (TAKE, Ratio(7, 2))]), True)
        self.assertIs(is_falling(TWO, TOSS, 0, [(HEAD, 10 ** 3900 + 1), (TAKE, 10 ** 3900)]), True)
        self.assertIs(is_falling(TWO, TOSS, 0, [(HEAD, Ratio(10 ** 3900 + 1)), (TAKE, Ratio(10 ** 3901))]), False)
        self.assertIs(is_falling(TWO, TOSS, 0, [(HEAD, 4), (TAKE, Ratio(29, 10))]), False)
        self.assertIs(is_falling(TWO, COIN, 0, [(((), 0), 1)]), True)
        self.assertIs(is_falling(TWO, COIN, 0, [(((), 0), Ratio(99, 100))]), False)


class TestMayStay(TimeCase):
    def test_parts_of_the_rows_and_longer_ways(self):
        inner = ((0, 0), 0)
        text = ("while", [0], ("either", ("while", [0], SKIP), ("set", 0, [1, 1])))
        way = [HEAD, TAKE, inner]
        with self.assertRaises(MayStay) as caught:
            falling(TWO, text, 0)
        self.assertEqual(caught.exception.rows, [HEAD, TAKE, inner])
        for value, good in [
                ((way, [inner]), True), ((way + [inner, inner], [inner]), True), ((way[:1], way), True), ((way, way), True),
                ((way[:2], way), True), ((way[:2], [inner]), False), ((way, [HEAD, inner]), False), ((way, way[::-1]), False),
                ((way, [inner, inner]), False), ((way[1:], [inner]), False), (([HEAD, inner], [inner]), False),
                ((way, []), False), (([], [inner]), False), ((way, [inner, ((0, 1), 0)]), False), ((way, [TAKE, inner]), True)]:
            self.assertIs(is_may_stay(TWO, text, 0, value), good, value)
            self.assertIs(plain_is_may_stay(PlainScene(TWO, text, 0), value), good, value)

    def test_others_of_the_rows_stand_ahead(self):
        text = ("while", [0], ("either", SKIP, SKIP))
        self.assertIs(is_may_stay(TWO, text, 0, ([HEAD, TAKE, HEAD, TAKE], [HEAD, TAKE])), True)
        self.assertIs(is_may_stay(TWO, FREE, 0, ([HEAD, TAKE] * 40, [HEAD, TAKE])), True)

    def test_a_way_through_rows_that_are_left(self):
        space, loop = Space([3]), ("while", [0], ("either", SKIP, ("set", 0, [1, 1, 1])))
        ahead = ("then", ("draw", 0, (0, 2), (1, 1)), ("if", [0], ("draw", 0, (0, 1), (1, 1)), SKIP))
        text = ("then", ahead, loop)
        way, rows = self.assert_way(space, text, 1, PlainScene(space, text, 1))
        self.assertEqual(way, [((0, 0), 1), ((0, 1, 0), 0), ((1,), 0)])
        self.assertEqual(rows, [((1,), 0), ((1, 0), 0)])

    def test_a_way_out_of_a_round(self):
        space = Space([3])
        ahead = ("while", [0], ("draw", 0, (0, 1), (1, 1)))
        later = ("then", ("draw", 0, (1, 2), (1, 1)), ("while", [1], ("either", SKIP, ("set", 0, [2, 2, 2]))))
        text = ("then", ahead, later)
        way, rows = self.assert_way(space, text, 0, PlainScene(space, text, 0))
        self.assertEqual(way, [((0,), 0), ((0, 0), 0), ((1, 0), 1), ((1, 1), 1)])
        self.assertEqual(rows, [((1, 1), 1), ((1, 1, 0), 1)])
        longer = way[:2] * 3 + way + [rows[1], rows[0]]
        self.assertIs(is_may_stay(space, text, 0, (longer, rows)), True)
        scene = PlainScene(space, text, 0)
        for other in spoilt((longer, rows)):
            self.assertIs(is_may_stay(space, text, 0, other), plain_is_may_stay(scene, other), other)

    def test_spoilt(self):
        for space, text, store, scene in by_both(self.drawn_scenes(604, 40, least_rows=3))[0][:10]:
            with self.assertRaises(MayStay) as caught:
                worst(space, text, store)
            value = (caught.exception.way, caught.exception.rows)
            if len(scene.rows) < 10:
                for other in spoilt(value):
                    self.assertIs(is_may_stay(space, text, store, other), plain_is_may_stay(scene, other), other)


class TestNeverMost(TimeCase):
    def test_against_all_picks(self):
        for space, text, store, scene in self.drawn_scenes(605, 90, least_rows=0):
            lots = [scene.lots_by_dice(scene.dice_of(pick)) for pick in scene.picks()]
            shares = [{place: Fraction(lot[-1], sum(lot)) for place, lot in told.items()} for told in lots]
            number, sides, numbered = self.ask(never_most, space, text, store)
            most = [(row, max(told[row] for told in shares)) for row in scene.rows]
            self.assertEqual([(row, fraction(one)) for row, one in numbered], most)
            self.assertEqual(fraction(number), max(told[scene.place] for told in shares))
            self.assert_numbers([number] + [one for _, one in numbered])
            self.assertTrue(plain_is_sides(scene, sides))
            followed = shares[scene.picks().index(tuple(side for _, side in sides))]
            self.assertEqual([(row, followed[row]) for row in scene.rows], most)
            self.assertEqual(number == 0, always_ends(space, text, store))

    def test_small(self):
        text = ("then", COIN, ("while", [0], ("either", SKIP, ("set", 0, [1, 1]))))
        self.assertEqual(never_most(TWO, text, 0)[:2], (Ratio(1, 3), [(((1, 0), 0), 0)]))
        self.assertEqual(never_most(TWO, ("either", FREE, SKIP), 0)[0], 1)


class TestOneLot(TimeCase):
    def test_against_all_picks(self):
        seen = {True: 0, False: 0}
        for space, text, store, scene in self.drawn_scenes(606, 120, least_rows=0, weights=((1, 1), (1, 3))):
            lots = [scene.lots_by_dice(scene.dice_of(pick)) for pick in scene.picks()]
            one = len({told[scene.place] for told in lots}) == 1
            seen[one] += 1
            self.assertEqual(len(ends(space, text, store)) == 1, one)
            told = self.ask(one_lot, space, text, store)
            if one:
                self.assertEqual(told, [(row, lots[-1][row]) for row in scene.rows])
                self.assertTrue(plain_is_one_lot(scene, told))
                self.assertIs(is_one_lot(space, text, store, told), True)
                self.assertIs(is_one_lot(space, text, store, tuple(told)), True)
            else:
                self.assertEqual(told[0], "TwoLots")
                self.assertTrue(plain_is_two_lots(scene, told[1:]))
                self.assertIs(is_two_lots(space, text, store, told[1:]), True)
                self.assertIs(is_two_lots(space, text, store, told[:0:-1]), True)
                self.assertIs(is_one_lot(space, text, store, [(row, lots[0][row]) for row in scene.rows]), False)
        self.assertGreater(min(seen.values()), 20)

    def test_both_sides_bring_one_lot(self):
        text = ("either", ("then", COIN, ("set", 0, [1, 0])), ("draw", 0, (0, 1), (2, 1)))
        self.assertEqual(one_lot(TWO, text, 0)[0], (((), 0), (2, 1, 0)))
        with self.assertRaises(TwoLots) as caught:
            one_lot(TWO, ("either", COIN, ("draw", 0, (0, 1), (2, 1))), 0)
        self.assertEqual(sorted([caught.exception.one, caught.exception.other]), [(0,), (1,)])

    def test_the_words_on_rows_where_one_may_stay(self):
        hang = ("while", [0, 1], SKIP)
        self.assertEqual(one_lot(TWO, hang, 0), [(HEAD, (0, 0, 1))])
        self.assertIs(is_one_lot(TWO, hang, 0, [(HEAD, (0, 0, 1))]), True)
        for lot in [(1, 0, 0), (0, 1, 0), (1, 1, 1), (0, 1, 1)]:
            self.assertIs(is_one_lot(TWO, hang, 0, [(HEAD, lot)]), False)
        self.assertIs(is_one_lot(TWO, FREE, 0, [(HEAD, (0, 1, 0)), (TAKE, (0, 1, 0))]), False)
        self.assertIs(is_one_lot(TWO, FREE, 0, [(HEAD, (0, 0, 1)), (TAKE, (0, 0, 1))]), False)

    def test_spoilt(self):
        seen = [0, 0]
        for space, text, store, scene in self.drawn_scenes(607, 60, least_rows=2, weights=((1, 1), (1, 2))):
            if len(scene.rows) > 6:
                continue
            try:
                value, judge, plain_judge = one_lot(space, text, store), is_one_lot, plain_is_one_lot
            except TwoLots as error:
                value, judge, plain_judge = (error.one, error.other), is_two_lots, plain_is_two_lots
            seen[judge is is_two_lots] += 1
            for other in spoilt(value):
                self.assertIs(judge(space, text, store, other), plain_judge(scene, other), other)
        self.assertGreater(min(seen), 5)

    def test_lots_of_any_size(self):
        text = ("draw", 0, (0, 1), (10 ** 6, 10 ** 6 - 1))
        self.assertIs(is_one_lot(TWO, text, 0, [(HEAD, (10 ** 6, 10 ** 6 - 1, 0))]), True)
        self.assertIs(is_one_lot(TWO, text, 0, [(HEAD, (10 ** 3000, 10 ** 3000 - 1, 0))]), False)
        self.assertIs(is_one_lot(TWO, text, 0, [(HEAD, (2 * 10 ** 6, 2 * 10 ** 6 - 2, 0))]), False)

    def test_equal_lots_are_not_two(self):
        text = ("either", ("either", SKIP, SKIP), SKIP)
        for one in PlainScene(TWO, text, 0).picks():
            for other in PlainScene(TWO, text, 0).picks():
                self.assertIs(is_two_lots(TWO, text, 0, (one, other)), False)


class TestJudgesAndBounds(TimeCase):
    def test_any_values(self):
        judged = list(zip(JUDGES, (plain_is_falling, plain_is_may_stay, plain_is_one_lot, plain_is_two_lots)))
        for text, store in [(SKIP, 0), (FREE, 0), (COIN, 0), (TOSS, 0)]:
            scene = PlainScene(TWO, text, store)
            for value in any_values():
                for other in [value, [value], (value, value), [(HEAD, value)], [(value, 1)], ([value], [HEAD]), ([HEAD], value)]:
                    for judge, plain_judge in judged:
                        self.assertIs(judge(TWO, text, store, other), plain_judge(scene, other), other)

    def test_rows(self):
        text = with_rows(64)
        self.assertIs(always_ends(EIGHT, text, 0), False)
        self.assertEqual(never_most(EIGHT, text, 0)[0], 1)
        self.assertEqual(len(one_lot(EIGHT, text, 0)), 64)
        for count in (65, 72, 104):
            text = with_rows(count)
            for function in PLAIN:
                self.assert_too_many(count, function, EIGHT, text, 0)
            for judge in JUDGES:
                for value in (None, [], ((), ())):
                    self.assert_too_many(count, judge, EIGHT, text, 0, value)

    def test_eithers(self):
        self.assertEqual(len(one_lot(TWO, counted_eithers(6), 0)), 6)
        self.assertIs(is_two_lots(TWO, counted_eithers(6), 0, ((0,) * 6, (1,) * 6)), False)
        for text, count in [(counted_eithers(7), 7), (nested_eithers(11), 11)]:
            self.assert_too_many(count, one_lot, TWO, text, 0)
            for judge in (is_one_lot, is_two_lots):
                for value in (None, [], ((0,) * count, (1,) * count)):
                    self.assert_too_many(count, judge, TWO, text, 0, value)
            # Where the document says many rows alone, the number of either rows does not matter.
            self.assertIs(always_ends(TWO, text, 0), True)
            self.assertEqual(worst(TWO, text, 0)[0], count)
            self.assertEqual(never_most(TWO, text, 0)[0], 0)
            self.assertIs(is_falling(TWO, text, 0, falling(TWO, text, 0)), True)
            self.assertIs(is_may_stay(TWO, text, 0, ([], [])), False)
        self.assert_too_many(79, one_lot, EIGHT, nested_eithers(7, with_rows(72)), 0)
        self.assert_too_many(79, is_two_lots, EIGHT, nested_eithers(7, with_rows(72)), 0, None)
        # TooMany comes ahead of what is worked out last.
        self.assert_too_many(79, worst, EIGHT, nested_eithers(7, with_rows(72)), 0)

    def test_which_error_comes_first(self):
        for function in PLAIN + JUDGES:
            more = (None,) if function in JUDGES else ()
            self.assert_first_errors(function, *more)

    def test_large_spaces(self):
        space = Space([8])
        text = ("while", [0, 1, 2, 3, 4, 5, 6], ("then", ("set", 0, [1, 2, 3, 4, 5, 6, 7, 7]), ("either", SKIP, SKIP)))
        self.assertIs(always_ends(space, text, 0), True)
        self.assertEqual(worst(space, text, 0)[0], 14)
        self.assertEqual(one_lot(space, ("while", [0], ("set", 0, [7] * 8)), 0), [(HEAD, (0,) * 7 + (1, 0))])


if __name__ == "__main__":
    unittest.main()
