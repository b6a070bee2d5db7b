"""Tests of endlots.rows: [6] and [61] to [67], with the head of their stage."""

import random
import unittest

from asking import COIN, EIGHT, FORK, FREE, HEAD, TAKE, TWO, WRONG_SPACES, WRONG_TEXTS, AskCase, spoilt, with_rows
from endlots.errors import InvalidRow, InvalidSpace, InvalidText
from endlots.rows import first, is_stays, met, moves, stays, turns
from endlots.spaces import Space, read_space
from odd import ALL_SIZES, any_values
from plain import SKIP, Drawn, Plain, PlainScene, is_end


def plain_is_stays(scene, value):
    """By the words of [67]."""
    if type(value) is not tuple or len(value) != 2 or not all(isinstance(part, (list, tuple)) for part in value):
        return False
    for item in [item for part in value for item in part]:
        if type(item) is not tuple or len(item) != 2 or type(item[1]) is not int or not is_row_made(item[0]):
            return False
    one, two = [[item[0] for item in part] for part in value]
    if set(one) & set(two) or set(one) | set(two) != set(scene.rows) or len(set(two)) != len(two):
        return False
    if len(set(value[0])) != len(value[0]):
        return False
    for row, at in value[0]:
        if not 0 <= at < len(scene.moves[row]) or not scene.is_among(scene.moves[row][at], one):
            return False
    numbers = dict(value[1])
    return all(
        any(is_end(place) or place in numbers and numbers[place] < numbers[row] for place, _ in move)
        for row in numbers for move in scene.moves[row])


def is_row_made(value):
    if type(value) is not tuple or len(value) != 2 or type(value[0]) is not tuple:
        return False
    return type(value[1]) is int and all(type(at) is int for at in value[0])


class TestPlaces(AskCase):
    def test_examples(self):
        text = ("then", FREE, ("draw", 0, (0, 1), (1, 3)))
        self.assertEqual([first(TWO, text, 0), first(TWO, text, 1)], [((0,), 0), ((1,), 1)])
        self.assertEqual(met(TWO, text, 0), [((0,), 0), ((0, 0), 0), ((1,), 1)])
        self.assertEqual(moves(TWO, text, ((0, 0), 0)), [[(((0,), 0), 1)], [(((1,), 1), 1)]])
        self.assertEqual(moves(TWO, text, ((1,), 1)), [[(0, 1), (1, 3)]])
        self.assertEqual(stays(TWO, text, 0), [(((0,), 0), 0), (((0, 0), 0), 0)])
        self.assertEqual(turns(TWO, text, 0), [(((1,), 1), 1)])
        self.assertIs(is_stays(TWO, text, 0, ([(((0, 0), 0), 0), (((0,), 0), 0)], [(((1,), 1), 7)])), True)

    def test_by_name(self):
        self.assertEqual(first(space=TWO, text=FREE, store=0), HEAD)
        self.assertEqual(moves(space=TWO, text=FREE, row=HEAD), [[(TAKE, 1)]])
        self.assertEqual(met(space=TWO, text=FREE, store=0), [HEAD, TAKE])
        self.assertEqual(stays(space=TWO, text=FREE, store=0), [(HEAD, 0), (TAKE, 0)])
        self.assertEqual(turns(space=TWO, text=FREE, store=0), [])
        self.assertIs(is_stays(space=TWO, text=FREE, store=0, value=([(HEAD, 0), (TAKE, 0)], [])), True)

    def test_first(self):
        flip = ("set", 0, [1, 0])
        for text, store, place in [
                (SKIP, 0, 0), (SKIP, 1, 1), (flip, 0, 1), (flip, 1, 0), (COIN, 1, ((), 1)), (FORK, 0, ((), 0)),
                (("then", flip, flip), 0, 0), (("then", flip, COIN), 0, ((1,), 1)), (("then", COIN, flip), 0, ((0,), 0)),
                (("if", [0], flip, COIN), 0, 1), (("if", [0], flip, COIN), 1, ((1,), 1)), (("if", [], flip, COIN), 0, ((1,), 0)),
                (("if", (0, 1), flip, COIN), 1, 0), (("either", flip, flip), 1, ((), 1)), (("while", [], COIN), 0, 0),
                (("while", [1], SKIP), 0, 0), (("while", [1], SKIP), 1, ((), 1)), (("while", (0, 1), flip), 0, ((), 0)),
                (("then", ("while", [1], COIN), flip), 0, 1), (("then", ("then", flip, flip), ("then", flip, COIN)), 0, ((1, 1), 1)),
                (("if", [0], ("then", flip, ("while", [1], SKIP)), SKIP), 0, ((0, 1), 1))]:
            self.assertEqual(first(TWO, text, store), place, text)

    def test_moves(self):
        # Behind the text of a while comes this while again, and one whose guard does not have the store is passed over.
        self.assertEqual(moves(TWO, ("while", [0], COIN), ((0,), 0)), [[(((), 0), 1), (1, 2)]])
        self.assertEqual(moves(TWO, ("while", [0, 1], COIN), ((0,), 1)), [[(((), 0), 1), (((), 1), 2)]])
        self.assertEqual(moves(TWO, ("while", [0], SKIP), HEAD), [[(HEAD, 1)]])
        self.assertEqual(moves(TWO, ("while", [0], ("set", 0, [1, 1])), HEAD), [[(1, 1)]])
        # Equal places are not put together, and equal moves are not left out.
        self.assertEqual(moves(TWO, ("then", COIN, ("set", 0, [0, 0])), ((0,), 1)), [[(0, 1), (0, 2)]])
        self.assertEqual(moves(TWO, ("either", SKIP, SKIP), ((), 1)), [[(1, 1)], [(1, 1)]])
        self.assertEqual(moves(TWO, ("either", COIN, FORK), ((), 1)), [[(((0,), 1), 1)], [(((1,), 1), 1)]])
        self.assertEqual(moves(Space([3]), ("draw", 0, (0, 2), (7, 10 ** 6)), ((), 1)), [[(0, 7), (2, 10 ** 6)]])
        # A draw changes its own name alone.
        self.assertEqual(moves(Space([2, 3]), ("draw", 1, (1, 2), (1, 1)), ((), 3)), [[(4, 1), (5, 1)]])
        self.assertEqual(moves(Space([2, 3]), ("draw", 0, (0, 1), (1, 1)), ((), 5)), [[(2, 1), (5, 1)]])

    def test_rows_that_cannot_be_met(self):
        text = ("if", [], ("then", COIN, FREE), SKIP)
        self.assertEqual(met(TWO, text, 0), [])
        self.assertEqual(moves(TWO, text, ((0, 0), 1)), [[(((0, 1), 0), 1), (1, 2)]])
        self.assertEqual(moves(TWO, text, ((0, 1, 0), 1)), [[(1, 1)], [(1, 1)]])

    def test_rows_of_a_text(self):
        chance = random.Random(201)
        drawn = Drawn(chance)
        for _ in range(40):
            space, text, _, scene = drawn.scene(4, most_rows=100, most_eithers=50, least_rows=0)
            rows = scene.plain.rows()
            for path in list(scene.plain.parts) + [(0,) * 9, (7,), (-1,)]:
                for store in range(-1, len(space) + 1):
                    row = (path, store)
                    if row in rows:
                        self.assertEqual(self.ask(moves, space, text, row), scene.plain.moves(row))
                    else:
                        self.assert_raises_with(InvalidRow, row, moves, space, text, row)

    def test_wrong_rows(self):
        text = ("while", [0], ("then", FORK, COIN))
        for row in [((), 0), ((0, 0), 0), ((0, 0), 1), ((0, 1), 1)]:
            self.assertGreater(len(moves(TWO, text, row)), 0)
            good = [((), 0), ((0, 0), 0), ((0, 0), 1), ((0, 1), 0), ((0, 1), 1)]
            for value in spoilt(row):
                if not (is_row_made(value) and value in good):
                    self.assert_raises_with(InvalidRow, value, moves, TWO, text, value)
        for value in any_values():
            self.assert_raises_with(InvalidRow, value, moves, TWO, text, value)
        for value in [((), 1), ((0,), 0), ((0, 0, 0), 0), ((0, 0, 1), 0), ((), 2), ((False, 0), 0), ((0, 0), False)]:
            self.assert_raises_with(InvalidRow, value, moves, TWO, text, value)

    def test_first_and_met_against_the_stack(self):
        chance = random.Random(202)
        drawn = Drawn(chance)
        for _ in range(120):
            space, text, store, scene = drawn.scene(chance.randrange(1, 6), most_rows=64, most_eithers=64, least_rows=0)
            self.assertEqual(self.ask(first, space, text, store), scene.place)
            self.assertEqual(self.ask(met, space, text, store), scene.rows)
            for row in scene.rows:
                self.assertEqual(moves(space, text, row), scene.moves[row])

    def test_all_spaces(self):
        for sizes in ALL_SIZES:
            space = read_space(Space(sizes).line())
            for name, size in enumerate(sizes):
                text = ("while", list(range(len(space))), ("draw", name, (0, size - 1), (1, 1)))
                for store in range(len(space)):
                    self.assertEqual(met(space, text, store), PlainScene(space, text, store).rows)

    def test_long_texts(self):
        left = right = SKIP
        for _ in range(22):
            left, right = ("then", left, ("set", 0, [1, 0])), ("then", ("set", 0, [1, 0]), right)
        for text in (left, right):
            self.assertEqual([first(TWO, text, 0), first(TWO, text, 1)], [0, 1])
        self.assertEqual(first(TWO, ("then", left, COIN), 1), ((1,), 1))
        four = COIN
        for _ in range(4):
            four = ("while", [1], four)
        self.assertEqual(met(TWO, four, 1), [((0,) * deep, 1) for deep in range(5)])
        self.assertEqual(moves(TWO, four, ((0, 0, 0, 0), 1)), [[(0, 1), (((0, 0, 0), 1), 2)]])


class TestStays(AskCase):
    def test_small(self):
        for text, store, staying, leaving in [
                (SKIP, 0, [], []),
                (COIN, 0, [], [(((), 0), 1)]),
                (("while", [0], SKIP), 0, [(HEAD, 0)], []),
                (("while", [0], COIN), 0, [], [(HEAD, 2), (TAKE, 1)]),
                (("while", [0], ("either", SKIP, SKIP)), 0, [(HEAD, 0), (TAKE, 0), (TAKE, 1)], []),
                (("either", ("while", [0], SKIP), ("while", [0], SKIP)), 0,
                    [(((), 0), 0), (((), 0), 1), (((0,), 0), 0), (((1,), 0), 0)], []),
                (FREE, 0, [(HEAD, 0), (TAKE, 0)], []),
                (("either", ("while", [0], SKIP), SKIP), 0, [(((), 0), 0), (((0,), 0), 0)], []),
                # A draw that leads off with some chance leads not to such rows alone.
                (("then", COIN, ("while", [0], SKIP)), 1, [(((1,), 0), 0)], [(((0,), 1), 1)])]:
            self.assertEqual(stays(TWO, text, store), staying, text)
            self.assertEqual(turns(TWO, text, store), leaving, text)

    def test_a_turn_leaves_out_rows_where_one_may_stay(self):
        # Behind the draw one may stay at 0; at 1 an end comes with two more draws.
        text = ("then", COIN, ("if", [0], ("while", [0], SKIP), ("then", COIN, ("then", COIN, SKIP))))
        self.assertEqual(stays(TWO, text, 0), [(((1, 0), 0), 0)])
        self.assertEqual(turns(TWO, text, 0), [
            (((0,), 0), 3), (((1, 1, 0), 1), 2), (((1, 1, 1, 0), 0), 1), (((1, 1, 1, 0), 1), 1)])

    def test_greatest_over_moves_least_over_places(self):
        long = ("then", COIN, ("then", COIN, COIN))
        self.assertEqual(turns(TWO, ("either", SKIP, long), 0)[0], (((), 0), 4))
        self.assertEqual(turns(TWO, ("then", COIN, ("if", [0], long, SKIP)), 0)[0], (((0,), 0), 1))

    def test_against_the_words(self):
        chance = random.Random(203)
        drawn = Drawn(chance)
        seen = [0, 0]
        for _ in range(150):
            space, text, store, scene = drawn.scene(chance.randrange(2, 6), most_rows=64, most_eithers=64)
            staying, leaving = self.ask(stays, space, text, store), self.ask(turns, space, text, store)
            rows = scene.staying()
            self.assertEqual(staying, [
                (row, at) for row in rows for at, move in enumerate(scene.moves[row]) if scene.is_among(move, rows)])
            self.assertEqual(leaving, sorted(scene.turns().items()))
            self.assertTrue(all(type(number) is int for _, number in staying + leaving))
            self.assertIs(is_stays(space, text, store, (staying, leaving)), True)
            self.assertIs(plain_is_stays(scene, (staying, leaving)), True)
            seen = [seen[0] + bool(staying), seen[1] + bool(leaving)]
        self.assertGreater(min(seen), 20)

    def test_judged(self):
        text = ("then", ("while", [0], ("either", SKIP, ("either", SKIP, COIN))), COIN)
        scene = PlainScene(TWO, text, 0)
        staying, leaving = stays(TWO, text, 0), turns(TWO, text, 0)
        self.assertEqual(len(staying), 4)
        good = [
            (staying, leaving), (tuple(staying[::-1]), tuple(leaving[::-1])), (staying, [(row, 10 ** 80) for row, _ in leaving]),
            (staying, [(row, -3) for row, _ in leaving]), (staying[:2] + staying[3:], leaving)]
        for value in good:
            self.assertEqual(is_stays(TWO, text, 0, value), plain_is_stays(scene, value), value)
        self.assertIs(is_stays(TWO, text, 0, good[0]), True)
        self.assertIs(is_stays(TWO, text, 0, good[1]), True)
        bad = [
            (staying[1:], leaving), (staying, leaving[:-1]), (staying + staying[:1], leaving), (staying, leaving + leaving[:1]),
            (staying, leaving + [(staying[0][0], 99)]), (staying + [(leaving[0][0], 0)], leaving), (leaving, staying),
            (staying + [(((0, 0), 0), 1)], leaving), (staying, leaving, []), (staying,), [staying, leaving],
            (staying + [(((0,), 1), 0)], leaving), (staying, leaving + [(((0,), 1), 5)]), ([], staying + leaving),
            (staying + leaving, []), (dict(staying), leaving), (staying, {})]
        for value in bad:
            self.assertIs(is_stays(TWO, text, 0, value), False, value)

    def test_sets_that_are_smaller_or_larger(self):
        inner = ("while", [0], ("either", SKIP, ("while", [0], SKIP)))
        rows = [((), 0), ((0,), 0), ((0, 1), 0)]
        self.assertEqual(stays(TWO, inner, 0), [(rows[0], 0), (rows[1], 0), (rows[1], 1), (rows[2], 0)])
        self.assertIs(is_stays(TWO, inner, 0, ([(rows[2], 0)], [(rows[0], 2), (rows[1], 1)])), False)
        self.assertIs(is_stays(TWO, inner, 0, ([(rows[0], 0), (rows[1], 0), (rows[2], 0)], [])), True)
        self.assertIs(is_stays(TWO, inner, 0, ([(rows[0], 0), (rows[1], 1), (rows[2], 0)], [])), True)
        self.assertIs(is_stays(TWO, inner, 0, ([(rows[0], 0), (rows[1], 0)], [(rows[2], 1)])), False)
        self.assertIs(is_stays(TWO, SKIP, 0, ([], [])), True)
        self.assertIs(is_stays(TWO, SKIP, 0, ((), ())), True)
        self.assertIs(is_stays(TWO, SKIP, 0, ([(HEAD, 0)], [])), False)

    def test_spoilt(self):
        chance = random.Random(204)
        drawn = Drawn(chance, weights=((1, 1),))
        for _ in range(12):
            space, text, store, scene = drawn.scene(4, most_rows=7, most_eithers=7, least_rows=3, least_eithers=1)
            value = (stays(space, text, store), turns(space, text, store))
            for other in spoilt(value):
                self.assertIs(is_stays(space, text, store, other), plain_is_stays(scene, other), other)

    def test_any_values(self):
        for value in any_values():
            self.assertIs(is_stays(TWO, FREE, 0, value), False)
            self.assertIs(is_stays(TWO, FREE, 0, ([(HEAD, 0), (TAKE, 0)], value)), value in ([], ()))
            self.assertIs(is_stays(TWO, COIN, 0, (value, [(HEAD, 1)])), value in ([], ()))
            self.assertIs(is_stays(TWO, FREE, 0, ([value, (TAKE, 0)], [])), False)
            self.assertIs(is_stays(TWO, FREE, 0, ([(value, 0), (TAKE, 0)], [])), False)
            self.assertIs(is_stays(TWO, FREE, 0, ([((value, 0), 0), (TAKE, 0)], [])), value == () and type(value) is tuple)

    def test_from_rows_where_one_may_stay_one_can(self):
        """[65]: taking a move of stays each time, one is led to rows of R alone."""
        chance = random.Random(205)
        drawn = Drawn(chance)
        for _ in range(40):
            space, text, store, _ = drawn.scene(5, most_rows=40, most_eithers=20)
            staying = stays(space, text, store)
            rows = {row for row, _ in staying}
            for row, at in staying:
                self.assertTrue({place for place, _ in moves(space, text, row)[at]} <= rows)


class TestBounds(AskCase):
    def test_many_rows(self):
        for count in (63, 64):
            text = with_rows(count)
            self.assertEqual(len(met(EIGHT, text, 0)), count)
            self.assertEqual(len(stays(EIGHT, text, 5)) + len(turns(EIGHT, text, 5)), count)
            self.assertIs(is_stays(EIGHT, text, 0, None), False)
        for count in (65, 71, 72, 104):
            text = with_rows(count)
            for function in (met, stays, turns):
                self.assert_too_many(count, function, EIGHT, text, 3)
            for value in (None, ([], [])):
                self.assert_too_many(count, is_stays, EIGHT, text, 3, value)
            self.assertEqual(len(moves(EIGHT, text, first(EIGHT, text, 0))), 1)

    def test_the_rows_met_count_not_those_of_the_text(self):
        text = ("if", [0], with_rows(64), SKIP)
        self.assertEqual(len(met(EIGHT, text, 0)), 64)
        self.assertEqual(met(EIGHT, ("if", [0], SKIP, with_rows(72)), 0), [])
        self.assert_too_many(72, met, EIGHT, ("if", [0], SKIP, with_rows(72)), 1)

    def test_which_error_comes_first(self):
        for function in (first, met, stays, turns):
            self.assert_first_errors(function)
        self.assert_first_errors(is_stays, None)
        for space in WRONG_SPACES:
            self.assert_raises_with(InvalidSpace, space, moves, space, None, None)
        for text in WRONG_TEXTS:
            self.assert_raises_with(InvalidText, text, moves, TWO, text, None)

    def test_plain_parts_of_the_stack(self):
        """The second way is no copy: what is still to be done stands in it from the whole down."""
        plain = Plain(TWO, ("while", [0], ("then", COIN, FREE)))
        self.assertEqual(plain.todo_behind((0, 0)), [(0, 1), ()])
        self.assertEqual(plain.todo_behind((0, 1, 0, 1)), [(0, 1), ()])


if __name__ == "__main__":
    unittest.main()
