"""Tests of endlots.courses: [51] to [57], with the head of their stage."""

import random
import unittest
from fractions import Fraction
from itertools import product

from asking import COIN, FORK, TWO, WRONG_STORES, AskCase, frozen, with_rows
from endlots.courses import behind, followed
from endlots.errors import (
    InvalidDraws, InvalidShare, InvalidSides, InvalidSpace, InvalidSteps, InvalidStore, InvalidText,
)
from endlots.ratios import Ratio
from endlots.spaces import Space, read_space
from odd import ALL_SIZES, any_values
from plain import SKIP, Drawn, Plain, PlainScene, fraction, is_end


def is_answers(value):
    return isinstance(value, (list, tuple)) and all(type(item) is int and item in (0, 1) for item in value)


def plain_followed(plain, store, sides, draws):
    """Where a text comes to, by its stack."""
    left = {"either": list(sides), "draw": list(draws)}
    place, passed = plain.first(store), []
    while not is_end(place):
        kind = plain.parts[place[0]][0]
        if kind == "while":
            if place in passed:
                return ("never", passed[passed.index(place):])
            passed.append(place)
            place = plain.moves(place)[0][0][0]
            continue
        if not left[kind]:
            return ("asks", place)
        answer, passed = left[kind].pop(0), []
        moves = plain.moves(place)
        place = moves[answer][0][0] if kind == "either" else moves[0][answer][0]
    return ("end", place)


def plain_behind(plain, store, chooser, steps):
    """A tuple (list, calls): what behind is to tell, and the calls of the chooser in order."""
    calls, shares = [], {}
    for length in range(steps + 1):
        for answers in product((0, 1), repeat=length):
            history, share, place = [], Fraction(1), None
            for answer in answers + (None,):
                given = {"either": [], "draw": []}
                for (path, _), one in history:
                    given[plain.parts[path][0]].append(one)
                told = plain_followed(plain, store, given["either"], given["draw"])
                place = told[1] if told[0] != "never" else plain.never
                if told[0] != "asks":
                    break
                if answer is None:
                    if length < steps and plain.parts[place[0]][0] == "either":
                        calls.append((list(history), place))
                    break
                if plain.parts[place[0]][0] == "either":
                    right = fraction(chooser(list(history), place))
                    share *= [1 - right, right][answer]
                else:
                    weights = [weight for _, weight in plain.moves(place)[0]]
                    share *= Fraction(weights[answer], sum(weights))
                if share == 0:
                    break
                history = history + [(place, answer)]
            if share > 0 and len(history) == length and (length == steps or is_end(place)):
                shares[place] = shares.get(place, 0) + share
    outcomes = sorted(place for place in shares if is_end(place))
    rows = sorted(place for place in shares if not is_end(place))
    return [(place, shares[place]) for place in outcomes + rows], calls


def by_history(history, row):
    """A chooser that goes by all that has happened."""
    told = 3 * row[1] + len(row[0])
    for (path, store), answer in history:
        told = (5 * told + 2 * answer + store + len(path)) % 7
    return [0, 1, Ratio(1, 2), Ratio(1, 3), Ratio(2, 3), Ratio(0), Ratio(1)][told % 7]


class TestFollowed(AskCase):
    def test_examples(self):
        text = ("while", [0], ("either", SKIP, COIN))
        self.assertEqual(followed(TWO, text, 0, [0, 1], [1]), ("end", 1))
        self.assertEqual(followed(TWO, text, 0, [0, 1], []), ("asks", ((0, 1), 0)))
        self.assertEqual(followed(TWO, text, 0, [0], [1, 1]), ("asks", ((0,), 0)))
        turned = ("then", ("set", 0, [1, 0]), ("while", [0], SKIP))
        self.assertEqual(followed(TWO, turned, 1, [], []), ("never", [((1,), 0)]))

    def test_by_name(self):
        self.assertEqual(followed(space=TWO, text=SKIP, store=1, sides=(), draws=()), ("end", 1))

    def test_answers(self):
        self.assertEqual(followed(TWO, FORK, 0, [0], []), ("end", 0))
        self.assertEqual(followed(TWO, FORK, 0, [1], []), ("end", 1))
        self.assertEqual(followed(TWO, COIN, 1, [], [0]), ("end", 0))
        self.assertEqual(followed(TWO, COIN, 0, [], [1]), ("end", 1))
        # A row asks also if both answers lead to one place.
        same = ("either", SKIP, SKIP)
        self.assertEqual(followed(TWO, same, 0, [], [0]), ("asks", ((), 0)))
        self.assertEqual(followed(TWO, same, 0, [1], []), ("end", 0))
        drawn = ("then", COIN, ("set", 0, [0, 0]))
        self.assertEqual(followed(TWO, drawn, 1, [1], []), ("asks", ((0,), 1)))
        self.assertEqual(followed(TWO, drawn, 1, [1], [1]), ("end", 0))

    def test_sides_and_draws_are_taken_apart(self):
        text = ("then", FORK, ("then", COIN, ("then", FORK, COIN)))
        self.assertEqual(followed(TWO, text, 0, [1, 0], [0, 1]), ("end", 1))
        self.assertEqual(followed(TWO, text, 0, [1, 0], [0, 0]), ("end", 0))
        self.assertEqual(followed(TWO, text, 0, [], [0, 1]), ("asks", ((0,), 0)))
        self.assertEqual(followed(TWO, text, 0, [1], []), ("asks", ((1, 0), 1)))
        self.assertEqual(followed(TWO, text, 0, [1], [0]), ("asks", ((1, 1, 0), 0)))
        self.assertEqual(followed(TWO, text, 0, [1, 1], [0]), ("asks", ((1, 1, 1), 1)))

    def test_used_up_just_there_one_less_and_longer(self):
        text = ("while", [0], ("either", ("then", COIN, SKIP), ("draw", 0, (0, 1), (1, 1))))
        for count in range(1, 7):
            sides, draws = [0] * count, [0] * (count - 1) + [1]
            self.assertEqual(followed(TWO, text, 0, sides, draws), ("end", 1))
            self.assertEqual(followed(TWO, text, 0, sides + [0, 1], draws + [1]), ("end", 1))
            self.assertEqual(followed(TWO, text, 0, sides, draws[:-1]), ("asks", ((0, 0, 0), 0)))
            self.assertEqual(followed(TWO, text, 0, sides[:-1], draws), ("asks", ((0,), 0)))
            self.assertEqual(followed(TWO, text, 0, [1] * count, draws[:-1]), ("asks", ((0, 1), 0)))

    def test_many_answers(self):
        text = ("while", [0], ("either", COIN, SKIP))
        count = 20000
        self.assertEqual(followed(TWO, text, 0, [0] * count, [0] * (count - 1) + [1]), ("end", 1))
        self.assertEqual(followed(TWO, text, 0, [1] * count, []), ("asks", ((0,), 0)))

    def test_rounds(self):
        four = ("while", [0], ("while", [0], ("while", [0], ("while", [0], SKIP))))
        # The innermost while alone comes again; the rows ahead of it are passed once.
        self.assertEqual(followed(TWO, four, 0, [], []), ("never", [((0, 0, 0), 0)]))
        self.assertEqual(followed(TWO, four, 1, [], []), ("end", 1))
        flip = ("while", [0, 1], ("set", 0, [1, 0]))
        self.assertEqual(followed(TWO, flip, 0, [], []), ("never", [((), 0), ((), 1)]))
        self.assertEqual(followed(TWO, flip, 1, [], []), ("never", [((), 1), ((), 0)]))
        wave = ("while", [0, 1, 2], ("set", 0, [1, 2, 1]))
        self.assertEqual(followed(Space([3]), wave, 0, [], []), ("never", [((), 1), ((), 2)]))
        inner = ("while", [0, 1], ("then", ("while", [0], ("set", 0, [1, 1])), ("set", 0, [1, 0])))
        self.assertEqual(followed(TWO, inner, 1, [], []), ("never", [((), 0), ((0, 0), 0)]))
        self.assertEqual(followed(TWO, inner, 0, [], []), ("never", [((), 0), ((0, 0), 0)]))

    def test_silent_loops_ahead_behind_and_within(self):
        silent = ("while", [1], SKIP)
        self.assertEqual(followed(TWO, ("then", silent, COIN), 0, [], [1]), ("end", 1))
        self.assertEqual(followed(TWO, ("then", silent, COIN), 1, [0], [1]), ("never", [((0,), 1)]))
        self.assertEqual(followed(TWO, ("then", COIN, silent), 0, [], [1]), ("never", [((1,), 1)]))
        self.assertEqual(followed(TWO, ("then", COIN, silent), 1, [], [0]), ("end", 0))
        within = ("while", [0, 1], ("then", COIN, silent))
        self.assertEqual(followed(TWO, within, 0, [], [0, 0, 1]), ("never", [((0, 1), 1)]))
        self.assertEqual(followed(TWO, within, 0, [], [0, 0]), ("asks", ((0, 0), 0)))
        # A row that comes again behind an answer is no round.
        self.assertEqual(followed(TWO, ("while", [0], ("either", SKIP, SKIP)), 0, [0] * 9, []), ("asks", ((0,), 0)))

    def test_four_deep_with_questions(self):
        text = FORK
        for _ in range(4):
            text = ("while", [0], text)
        self.assertEqual(followed(TWO, text, 0, [0, 0, 1], []), ("end", 1))
        self.assertEqual(followed(TWO, text, 0, [0, 0], []), ("asks", ((0, 0, 0, 0), 0)))

    def test_against_the_stack(self):
        chance = random.Random(101)
        drawn = Drawn(chance)
        for _ in range(150):
            space, text, store, scene = drawn.scene(chance.randrange(1, 6), most_rows=190, most_eithers=99, least_rows=0)
            for count in (0, 1, 3, 12):
                sides = [chance.randrange(2) for _ in range(count)]
                draws = [chance.randrange(2) for _ in range(chance.randrange(count + 1))]
                told = self.ask(followed, space, text, store, sides, draws)
                self.assertEqual(told, plain_followed(scene.plain, store, sides, draws))

    def test_all_spaces(self):
        for sizes in ALL_SIZES:
            space = read_space(Space(sizes).line())
            for store in range(len(space)):
                for name, size in enumerate(sizes):
                    draw = ("draw", name, (0, size - 1), (1, 1))
                    values = list(space.at(store))
                    values[name] = size - 1
                    self.assertEqual(followed(space, draw, store, [], [1]), ("end", space.store(values)))

    def test_any_number_of_rows(self):
        space = Space([2, 2, 2])
        self.assertEqual(followed(space, with_rows(104), 0, [0] * 99, [])[0], "asks")
        self.assertEqual(behind(space, with_rows(104), 0, by_history, 2)[0][1], Ratio(1, 4))

    def test_wrong_arguments(self):
        for space in (None, [2], (2,), "2", 2, SKIP):
            self.assert_raises_with(InvalidSpace, space, followed, space, None, None, None, None)
        for text in (None, [], ("hole",), ("stop",), ["skip"], ("set", 0, [0, 2]), ("while", [2], SKIP)):
            self.assert_raises_with(InvalidText, text, followed, TWO, text, None, None, None)
        for store in WRONG_STORES:
            self.assert_raises_with(InvalidStore, store, followed, TWO, FORK, store, None, None)
        wrong = [None, True, 0, "0", {}, {0: 0}, [True], [0, False], [2], [-1], [0, 0, 2], [Ratio(0)], [None], ["0"], [[0]]]
        for answers in wrong:
            self.assert_raises_with(InvalidSides, answers, followed, TWO, FORK, 0, answers, None)
            self.assert_raises_with(InvalidDraws, answers, followed, TWO, FORK, 0, [], answers)
            # An item that would not be used is wrong all the same.
            self.assert_raises_with(InvalidSides, answers, followed, TWO, SKIP, 0, answers, [2])
        for value in any_values():
            if not is_answers(value):
                self.assert_raises_with(InvalidSides, value, followed, TWO, SKIP, 0, value, value)
                self.assert_raises_with(InvalidDraws, value, followed, TWO, SKIP, 0, (), value)


class TestBehind(AskCase):
    def test_examples(self):
        text = ("while", [0], ("either", SKIP, COIN))
        after = behind(TWO, text, 0, lambda history, row: Ratio(1, 2), 2)
        self.assertEqual(after, [(1, Ratio(1, 3)), (((0,), 0), Ratio(5, 12)), (((0, 1), 0), Ratio(1, 4))])
        self.assertEqual(behind(TWO, text, 0, lambda history, row: 0, 8), [(((0,), 0), 1)])
        self.assertEqual(behind(TWO, text, 1, lambda history, row: 0, 8), [(1, 1)])

    def test_against_the_stack(self):
        chance = random.Random(102)
        drawn = Drawn(chance)
        for _ in range(60):
            space, text, store, scene = drawn.scene(chance.randrange(1, 5), most_rows=60, most_eithers=30)
            for steps in (0, 1, 2, chance.randrange(3, 6)):
                calls = []

                def chooser(history, row):
                    calls.append((list(history), row))
                    return by_history(history, row)

                told = behind(space, text, store, chooser, steps)
                expected, expected_calls = plain_behind(scene.plain, store, by_history, steps)
                self.assertEqual([(place, fraction(share)) for place, share in told], expected)
                self.assert_numbers([share for _, share in told])
                self.assertEqual(sum(fraction(share) for _, share in told), 1)
                self.assertEqual(calls, expected_calls)
                self.assertEqual(len(set(map(str, calls))), len(calls))
                self.ask(behind, space, text, store, by_history, steps)

    def test_no_answers(self):
        calls = []
        for text, store, place in [
                (FORK, 0, ((), 0)), (COIN, 1, ((), 1)), (SKIP, 1, 1), (("while", [0], SKIP), 0, 2),
                (("while", [0], FORK), 0, ((0,), 0)), (("while", [0], FORK), 1, 1)]:
            self.assertEqual(behind(TWO, text, store, lambda *given: calls.append(given), 0), [(place, 1)])
        self.assertEqual(calls, [])
        # No callable is needed where nothing is asked.
        self.assertEqual(behind(space=TWO, text=SKIP, store=0, chooser=None, steps=8), [(0, 1)])

    def test_eight_answers(self):
        text, calls = ("while", [0], ("either", SKIP, ("either", SKIP, ("set", 0, [1, 1])))), []

        def chooser(history, row):
            calls.append((history, row))
            return Ratio(1, 2)

        told = behind(TWO, text, 0, chooser, 8)
        self.assertEqual(told, plain_told(text, lambda history, row: Ratio(1, 2), 8))
        self.assertEqual([len(history) for history, _ in calls], sorted(len(history) for history, _ in calls))
        self.assertEqual(len({tuple(history) for history, _ in calls}), len(calls))
        every = ("while", [0, 1], ("either", ("set", 0, [1, 0]), ("set", 0, [1, 0])))
        calls.clear()
        self.assertEqual(behind(TWO, every, 0, chooser, 8), [(((0,), 0), 1)])
        self.assertEqual(len(calls), 255)
        histories = [history for history, _ in calls]
        self.assertEqual(histories, sorted(histories, key=lambda history: (len(history), history)))

    def test_places_that_stay(self):
        text = ("either", ("while", [0], SKIP), ("either", SKIP, ("set", 0, [1, 1])))
        for steps in (2, 3, 8):
            told = behind(TWO, text, 0, lambda history, row: Ratio(1, 2), steps)
            self.assertEqual(told, [(0, Ratio(1, 4)), (1, Ratio(1, 4)), (2, Ratio(1, 2))])
        self.assertEqual(behind(TWO, text, 0, lambda history, row: 0, 8), [(2, 1)])
        self.assertEqual(behind(TWO, text, 0, lambda history, row: 1, 8), [(1, 1)])

    def test_equal_places_are_put_together(self):
        text = ("then", COIN, ("then", ("set", 0, [0, 0]), FORK))
        self.assertEqual(behind(TWO, text, 0, None, 1), [(((1, 1), 0), 1)])
        self.assertEqual(behind(TWO, ("either", SKIP, SKIP), 0, lambda history, row: Ratio(1, 3), 1), [(0, 1)])

    def test_outcomes_stand_ahead_of_rows(self):
        space = Space([3])
        text = ("then", ("draw", 0, (0, 2), (1, 1)), ("if", [0], ("draw", 0, (0, 1), (1, 1)), ("while", [2], SKIP)))
        self.assertEqual(behind(space, text, 0, None, 1), [(3, Ratio(1, 2)), (((1, 0), 0), Ratio(1, 2))])
        self.assertEqual(behind(space, text, 0, None, 2), [(0, Ratio(1, 4)), (1, Ratio(1, 4)), (3, Ratio(1, 2))])

    def test_rows_are_ascending(self):
        text = ("then", COIN, ("then", ("set", 0, [1, 0]), FORK))
        self.assertEqual(behind(TWO, text, 0, None, 1), [(((1, 1), 0), Ratio(2, 3)), (((1, 1), 1), Ratio(1, 3))])
        text = ("then", COIN, ("if", [1], COIN, FORK))
        self.assertEqual(behind(TWO, text, 0, None, 1), [(((1, 0), 1), Ratio(2, 3)), (((1, 1), 0), Ratio(1, 3))])

    def test_histories_that_cannot_come_are_not_asked_for(self):
        text, calls = ("then", FORK, ("then", FORK, FORK)), []

        def chooser(history, row):
            calls.append(([answer for _, answer in history], row))
            return 1 if len(history) == 0 else Ratio(0)

        self.assertEqual(behind(TWO, text, 0, chooser, 3), [(1, 1)])
        self.assertEqual(calls, [([], ((0,), 0)), ([1], ((1, 0), 1)), ([1, 0], ((1, 1), 1))])

    def test_choosers_that_keep_grow_and_clear_histories(self):
        text, kept = ("while", [0], ("either", SKIP, COIN)), []

        def keeps(history, row):
            kept.append((history, list(history)))
            return by_history(history, row)

        def clears(history, row):
            share = by_history(history, row)
            history.clear()
            return share

        def grows(history, row):
            share = by_history(history, row)
            history.append((row, 7))
            history.insert(0, None)
            return share

        told = behind(TWO, text, 0, by_history, 8)
        for chooser in (keeps, clears, grows):
            self.assertEqual(frozen(behind(TWO, text, 0, chooser, 8)), frozen(told))
        self.assertTrue(all(now == then for now, then in kept))
        self.assertEqual(len({id(history) for history, _ in kept}), len(kept))
        self.assertTrue(all(type(history) is list for history, _ in kept))

    def test_a_chooser_that_follows_texts_itself(self):
        text = ("while", [0], ("either", SKIP, COIN))

        def chooser(history, row):
            sides = [answer for (path, _), answer in history if path == (0,)]
            draws = [answer for (path, _), answer in history if path == (0, 1)]
            self.assertEqual(followed(TWO, text, 0, sides, draws), ("asks", row))
            inner = behind(TWO, ("then", COIN, FORK), 1, lambda *given: Ratio(1, 2), 2)
            self.assertEqual(inner, [(0, Ratio(1, 6)), (1, Ratio(5, 6))])
            return by_history(history, row)

        self.assertEqual(behind(TWO, text, 0, chooser, 5), plain_told(text, by_history, 5))

    def test_callable_objects(self):
        class Chooser:
            def __init__(self):
                self.asked = 0

            def __call__(self, *given):
                self.asked += len(given)
                return Ratio(self.asked % 3, 2)

        chooser = Chooser()
        behind(TWO, FORK, 0, chooser, 1)
        self.assertEqual(chooser.asked, 2)

    def test_wrong_shares_at_any_asking(self):
        text = ("while", [0], ("either", SKIP, ("either", SKIP, SKIP)))
        count = len(plain_behind(Plain(TWO, text), 0, lambda *given: Ratio(1, 2), 4)[1])
        self.assertEqual(count, 15)
        wrong = [None, True, False, -1, 2, "1", [1], (1,), [], {}, Ratio(-1, 9), Ratio(10, 9), 0.5, TWO, "x" * 4000]
        for at in range(count):
            for share in wrong:
                calls = []

                def chooser(history, row):
                    calls.append(row)
                    return share if len(calls) == at + 1 else Ratio(1, 2)

                self.assert_raises_with(InvalidShare, share, behind, TWO, text, 0, chooser, 4)
                self.assertEqual(len(calls), at + 1)

    def test_errors_of_choosers_come_through(self):
        class Mine(Exception):
            pass

        for at in range(7):
            for error in (Mine("mine"), ValueError("plain"), InvalidShare(3), StopIteration(), KeyError(1), ZeroDivisionError()):
                calls = []

                def chooser(history, row):
                    calls.append(row)
                    if len(calls) == at + 1:
                        raise error
                    return Ratio(1, 2)

                with self.assertRaises(type(error)) as caught:
                    behind(TWO, ("while", [0], ("either", SKIP, SKIP)), 0, chooser, 3)
                self.assertIs(caught.exception, error)
                self.assertEqual(len(calls), at + 1)

    def test_wrong_arguments(self):
        def chooser(history, row):
            raise AssertionError("called")

        for steps in (None, True, False, -1, 9, "1", [1], Ratio(1), Ratio(0), 10 ** 60, {}, TWO):
            self.assert_raises_with(InvalidSteps, steps, behind, TWO, FORK, 0, chooser, steps)
        for store in WRONG_STORES:
            self.assert_raises_with(InvalidStore, store, behind, TWO, FORK, store, chooser, None)
        for text in (None, ("hole",), ["skip"], ("either", SKIP)):
            self.assert_raises_with(InvalidText, text, behind, TWO, text, None, chooser, None)
        for space in (None, [2], "2"):
            self.assert_raises_with(InvalidSpace, space, behind, space, None, None, chooser, None)

    def test_what_no_move_lowers(self):
        """[57]: numbers that no move lowers are, over the places, not below the first number, and never fall."""
        chance = random.Random(103)
        drawn = Drawn(chance)
        for _ in range(25):
            space, text, store, scene = drawn.scene(4, most_eithers=4, least_eithers=1)
            payoff = [chance.randrange(-5, 6) for _ in range(len(space) + 1)]
            # The least mean that any pick brings from each row is lowered by no move.
            lots = [scene.lots_by_dice(scene.dice_of(pick)) for pick in scene.picks()]
            shares = [{place: [Fraction(one, sum(lot)) for one in lot] for place, lot in told.items()} for told in lots]
            least = {
                place: min(sum(x * y for x, y in zip(told[place], payoff)) for told in shares) for place in shares[0]}
            before = least[scene.place]
            for steps in range(6):
                told = behind(space, text, store, by_history, steps)
                now = sum(fraction(share) * least[place] for place, share in told)
                self.assertGreaterEqual(now, before)
                before = now


def plain_told(text, chooser, steps):
    told, _ = plain_behind(PlainScene(TWO, text, 0).plain, 0, chooser, steps)
    return [(place, Ratio(share.numerator, share.denominator)) for place, share in told]


if __name__ == "__main__":
    unittest.main()
