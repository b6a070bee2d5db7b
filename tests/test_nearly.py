"""Tests of endlots.nearly: [151] to [156], with the head of their stage."""

import random
import unittest

from around import HOLE, around, drawn_surrounding, filled_with, leads_to_never, plain_ends, plain_is_runs
from asking import (
    COIN, EIGHT, FORK, FREE, HEAD, TAKE, TWO, WRONG_SPACES, WRONG_STORES, WRONG_TEXTS, AskCase, counted_eithers,
    nested_eithers, spoilt, with_rows,
)
from endlots.backward import best
from endlots.errors import InvalidOther, InvalidSpace, InvalidStore, InvalidSurrounding, InvalidText, MayGoOn
from endlots.hulls import distance
from endlots.nearly import bound_in, is_lead, is_runs, lead, lead_paper, runs_in
from endlots.ratios import Ratio
from endlots.spaces import Space
from endlots.standing import stands_for
from endlots.texts import is_text
from endlots.times import always_ends
from odd import any_values
from plain import (
    SKIP, Drawn, PlainScene, fraction, is_number, is_payoff_value, mean_by, place_numbers, plain_is_blend, plain_is_pick,
    plain_is_table, shares_of,
)
from test_standing import ANYTHING, HANG, all_lists, plain_is_closed

QUARTER = ("draw", 0, (0, 1), (1, 3))
ROUND = ("while", [0], HOLE)
WRONG_AROUND = [None, [], SKIP, ["hole"], ("hole", 0), ("then", HOLE), ("while", [2], HOLE), ("then", SKIP, SKIP), "hole", ()]


def gap(lot, other):
    """The distance of two lots."""
    return sum(max(0, one - two) for one, two in zip(shares_of(lot), shares_of(other)))


def plain_is_lead(scenes, others, value):
    """By the words of [153]."""
    if type(value) is not tuple or len(value) != 3 or not is_number(value[0]):
        return False
    number = fraction(value[0])
    above, below = value[1:]
    if not isinstance(above, (list, tuple)) or len(above) != len(scenes):
        return False
    for scene, other, one in zip(scenes, others, above):
        if type(one) is not tuple or len(one) != 2 or not plain_is_closed(scene, one[0]):
            return False
        lots = all_lists(scene, {row: lots for row, lots, _ in one[0]})[scene.place]
        if not isinstance(one[1], (list, tuple)) or len(one[1]) != len(lots):
            return False
        for lot, blend in zip(lots, one[1]):
            if not plain_is_blend(other, blend) or gap(lot, other.blended_lot(blend)) > number:
                return False
    return plain_is_below(scenes, others, number, below)


def plain_is_below(scenes, others, number, below):
    if type(below) is not tuple or len(below) != 4 or type(below[0]) is not int or not 0 <= below[0] < len(scenes):
        return False
    store, pick, payoff, table = below
    if not plain_is_pick(scenes[store], pick) or not is_payoff_value(payoff, scenes[0].never + 1):
        return False
    if min(payoff) < 0 or max(payoff) == 0 or not plain_is_table(others[store], payoff, table):
        return False
    reached = place_numbers(payoff, table)[others[store].place] + number * max(payoff)
    return reached <= mean_by(scenes[store].lot_by(pick), payoff)


def all_plain(space, text):
    return [PlainScene(space, text, store) for store in range(len(space))]


class NearlyCase(AskCase):
    def drawn_both(self, seed, many, deep=3, most_eithers=2, most_rows=16, sizes=None):
        chance = random.Random(seed)
        drawn = Drawn(chance, sizes=sizes)
        for _ in range(many):
            yield drawn.both(chance.randrange(1, deep + 1), most_eithers=most_eithers, most_rows=most_rows)

    def drawn_around(self, seed, many, deep=3):
        """Surroundings with texts, some of which are filled ones that always end."""
        chance = random.Random(seed)
        drawn = Drawn(chance)
        while many > 0:
            space, text, _, _ = drawn.scene(chance.randrange(0, 3), most_eithers=3, least_rows=0)
            if max(len(scene.eithers) for scene in all_plain(space, text)) > 3:
                continue
            surrounding = drawn_surrounding(drawn, space, chance.randrange(0, deep + 1))
            store = chance.randrange(len(space))
            scene = around(space, surrounding, text, store)
            if len(scene.rows) <= 40:
                many -= 1
                yield (space, surrounding, text, store, scene)


class TestLead(NearlyCase):
    def test_examples(self):
        self.assertEqual([lead(TWO, QUARTER, FORK), lead(TWO, FORK, QUARTER), lead(TWO, QUARTER, QUARTER)], [Ratio(1, 4), Ratio(3, 4), 0])
        self.assertEqual(runs_in(TWO, ROUND, QUARTER, 0)[0], Ratio(4, 3))
        self.assertEqual([bound_in(TWO, ROUND, QUARTER, FORK, 0), bound_in(TWO, ROUND, QUARTER, FORK, 1)], [Ratio(1, 3), 0])
        value = (Ratio(4, 3), [(HEAD, Ratio(4, 3)), (TAKE, Ratio(4, 3))], [(HEAD, 0), (TAKE, 0)], [(HEAD, 3), (TAKE, 2)])
        self.assertIs(is_runs(TWO, ROUND, QUARTER, 0, value), True)
        with self.assertRaises(MayGoOn) as caught:
            runs_in(TWO, ROUND, FORK, 0)
        self.assertEqual(caught.exception.store, 0)

    def test_by_name(self):
        self.assertEqual(lead(space=TWO, text=SKIP, other=SKIP), 0)
        paper = lead_paper(space=TWO, text=SKIP, other=SKIP)
        self.assertIs(is_lead(space=TWO, text=SKIP, other=SKIP, value=paper), True)
        told = runs_in(space=TWO, surrounding=HOLE, text=SKIP, store=0)
        self.assertIs(is_runs(space=TWO, surrounding=HOLE, text=SKIP, store=0, value=told), True)
        self.assertEqual(bound_in(space=TWO, surrounding=HOLE, text=SKIP, other=SKIP, store=0), 0)

    def test_small(self):
        for text, other, number in [
                (SKIP, FORK, 0), (FORK, SKIP, 1), (HANG, ANYTHING, 0), (ANYTHING, HANG, 1), (COIN, QUARTER, Ratio(1, 12)),
                (("either", SKIP, QUARTER), ("either", COIN, SKIP), Ratio(1, 12)), (FREE, ("set", 0, [1, 1]), 1),
                (("set", 0, [1, 1]), FREE, 0), (("draw", 0, (0, 1), (1, 999999)), ("set", 0, [1, 1]), Ratio(1, 10 ** 6))]:
            self.assertEqual(self.ask(lead, TWO, text, other), number, (text, other))
            self.assert_numbers([lead(TWO, text, other)])

    def test_papers(self):
        seen = {}
        for space, text, other in self.drawn_both(801, 60):
            scenes, others = all_plain(space, text), all_plain(space, other)
            number = self.ask(lead, space, text, other)
            self.assert_numbers([number])
            paper = self.ask(lead_paper, space, text, other)
            self.assertEqual(paper[0], number)
            self.assert_numbers([paper[0]] + [one for _, one in paper[2][3]])
            self.assertTrue(plain_is_lead(scenes, others, paper))
            self.assertIs(is_lead(space, text, other, paper), True)
            self.assertEqual(number == 0, stands_for(space, text, other))
            kind = "0" if number == 0 else "1" if number == 1 else "between"
            seen[kind] = seen.get(kind, 0) + 1
        self.assertGreater(min(seen.values()), 3)
        self.assertEqual(len(seen), 3)

    def test_six_eithers(self):
        for space, text, other in self.drawn_both(802, 20, deep=5, most_eithers=6, most_rows=40):
            lots, others = plain_ends(space, text), plain_ends(space, other)
            far = [distance(told, lot)[0] for found, told in zip(lots, others) for lot in found]
            self.assertEqual(lead(space, text, other), max(far, key=fraction))

    def test_over_third_texts(self):
        """[151]"""
        chance = random.Random(803)
        drawn = Drawn(chance, sizes=(3,))
        space = Space([3])
        texts = [one for _, *two in [drawn.both(3, most_eithers=3) for _ in range(8)] for one in two]
        for _ in range(60):
            one, two, three = chance.choice(texts), chance.choice(texts), chance.choice(texts)
            self.assertFalse((lead(space, one, two) + lead(space, two, three)).below(lead(space, one, three)))

    def test_payoffs(self):
        """[152]"""
        chance = random.Random(804)
        for space, text, other in self.drawn_both(805, 40):
            number = lead(space, text, other)
            payoff = [chance.randrange(0, 1001) for _ in range(len(space) + 1)]
            for store in range(len(space)):
                more = best(space, text, store, payoff) - best(space, other, store, payoff)
                self.assertFalse((number * 1000).below(more))
            store, _, payoff, _ = lead_paper(space, text, other)[2]
            more = best(space, text, store, payoff) - best(space, other, store, payoff)
            self.assertEqual(more, number * max(payoff) if number != 0 else 0)

    def test_other_papers(self):
        number, above, below = lead_paper(TWO, FORK, QUARTER)
        scenes, others = all_plain(TWO, FORK), all_plain(TWO, QUARTER)
        for value, good in [
                ((number, above, below), True), ((number + Ratio(1, 10 ** 30), above, below), False),
                ((number - Ratio(1, 10 ** 30), above, below), False), ((number, above, (0, (0,), [8, 0, 0], [(((), 0), 2)])), True),
                ((number, above, (0, (0,), [8, 0, 6], [(((), 0), 2)])), True), ((number, above, (0, (1,), [8, 0, 0], [(((), 0), 2)])), False),
                ((number, above, (0, (0,), [8, 0, 9], [(((), 0), 2)])), False), ((number, above, (0, (0,), [8, 0, -1], [(((), 0), 2)])), False),
                ((number, above, (0, (0,), [8, 0, 0], [(((), 0), 3)])), False), ((number, above, (0, (0,), [0, 0, 0], [(((), 0), 0)])), False),
                ((number, above, (1, (0,), [8, 0, 0], [(((), 1), 2)])), False), ((number, tuple(above), below), True)]:
            self.assertIs(is_lead(TWO, FORK, QUARTER, value), good, value)
            self.assertIs(plain_is_lead(scenes, others, value), good, value)

    def test_spoilt(self):
        seen = 0
        for space, text, other in self.drawn_both(806, 60, deep=2, most_rows=3, sizes=(2,)):
            scenes, others = all_plain(space, text), all_plain(space, other)
            if not any(scene.eithers for scene in scenes + others):
                continue
            seen += 1
            if seen > 5:
                break
            for value in spoilt(lead_paper(space, text, other)):
                self.assertIs(is_lead(space, text, other, value), plain_is_lead(scenes, others, value), value)
        self.assertGreater(seen, 4)

    def test_any_values(self):
        paper = lead_paper(TWO, COIN, FORK)
        scenes, others = all_plain(TWO, COIN), all_plain(TWO, FORK)
        for value in any_values():
            changed = [paper[:at] + (value,) + paper[at + 1:] for at in range(3)]
            changed += [paper[:2] + (paper[2][:at] + (value,) + paper[2][at + 1:],) for at in range(4)]
            changed += [(paper[0], [value] * 2, paper[2]), (paper[0], [(value, value)] * 2, paper[2])]
            for other in [value, [value], (value, value, value)] + changed:
                self.assertIs(is_lead(TWO, COIN, FORK, other), plain_is_lead(scenes, others, other))


class TestRuns(NearlyCase):
    def test_against_the_words(self):
        seen = {True: 0, False: 0}
        for space, surrounding, text, store, scene in self.drawn_around(811, 150):
            goes_on = leads_to_never(scene) or bool(scene.staying())
            seen[goes_on] += 1
            told = self.ask(runs_in, space, surrounding, text, store)
            filled = PlainScene(space, filled_with(surrounding, text), store)
            self.assertEqual(goes_on, bool(filled.staying()))
            if goes_on:
                self.assertEqual(told, ("MayGoOn", store))
                self.assertRaises(MayGoOn, bound_in, space, surrounding, text, text, store)
                continue
            self.assert_numbers([told[0]] + [one for _, one in told[1] + told[3]])
            self.assertTrue(plain_is_runs(scene, told))
            self.assertIs(is_runs(space, surrounding, text, store, told), True)
            self.assertIs(is_runs(space, surrounding, text, store, (told[0], *[tuple(one) for one in told[1:]])), True)
        self.assertGreater(min(seen.values()), 30)

    def test_doors(self):
        # The text brings two corners from 0; the door has a move for each, ascending.
        space = Space([3])
        text = ("either", ("set", 0, [2, 2, 2]), ("draw", 0, (1, 2), (1, 2)))
        surrounding = ("while", [0, 1], HOLE)
        told = runs_in(space, surrounding, text, 0)
        self.assertEqual(told[0], Ratio(3, 2))
        self.assertEqual(told[2], [(((), 0), 0), (((), 1), 0), (((0,), 0), 1), (((0,), 1), 1)])
        # From 2 no door is met, and from 0 in a set just one is.
        self.assertEqual(runs_in(space, surrounding, text, 2), (0, [], [], []))
        self.assertEqual(runs_in(space, ("then", ("set", 0, [2, 2, 2]), HOLE), text, 0)[1], [(((1,), 2), 1)])
        self.assertEqual(runs_in(space, ("then", HOLE, ("then", HOLE, HOLE)), text, 0)[0], 3)
        self.assertEqual(runs_in(space, ("if", [1], HOLE, SKIP), text, 0), (0, [], [], []))

    def test_may_go_on(self):
        for surrounding, text, store, goes_on in [
                (HOLE, HANG, 0, True), (HOLE, ("if", [0], HANG, SKIP), 1, False), (HOLE, ("if", [0], HANG, SKIP), 0, True),
                (ROUND, SKIP, 0, True), (ROUND, SKIP, 1, False), (ROUND, COIN, 0, False), (ROUND, FORK, 0, True),
                (HOLE, FREE, 0, True), (HOLE, FREE, 1, False), (("then", HOLE, HANG), SKIP, 0, True),
                (("then", HOLE, FREE), ("set", 0, [1, 1]), 0, False), (("either", HOLE, HANG), SKIP, 1, True),
                # A round that is never come to counts for nothing.
                (("then", ("set", 0, [1, 1]), ("while", [0], ("either", SKIP, HOLE))), SKIP, 0, False),
                (("while", [0], ("if", [0], ("draw", 0, (0, 1), (1, 10 ** 6)), HOLE)), HANG, 0, False),
                # Corners alone: the blend of both sides goes on, with a chance, though it need not.
                (HOLE, ("either", HANG, SKIP), 0, True)]:
            told = self.ask(runs_in, TWO, surrounding, text, store)
            self.assertEqual(told[0] == "MayGoOn", goes_on, (surrounding, text, store))
            self.assertEqual(goes_on, bool(PlainScene(TWO, filled_with(surrounding, text), store).staying()))

    def test_moves_that_lead_to_never(self):
        # What is told is right but for never.
        door = ((), 0)
        for text, moves in [(HANG, 1), (("either", HANG, SKIP), 2), (("either", ("then", COIN, ("while", [0], SKIP)), SKIP), 2)]:
            value = (1, [(door, 1)], [(door, moves - 1)], [(door, 1)])
            self.assertIs(is_runs(TWO, HOLE, text, 0, value), False)
            self.assertIs(plain_is_runs(around(TWO, HOLE, text, 0), value), False)
        self.assertIs(is_runs(TWO, HOLE, ("either", COIN, SKIP), 0, (1, [(door, 1)], [(door, 1)], [(door, 1)])), True)

    def test_always_ends_of_what_is_filled(self):
        seen = {True: 0, False: 0}
        for space, surrounding, text, store, _ in self.drawn_around(812, 80, deep=2):
            filled = filled_with(surrounding, text)
            if is_text(space, filled) and len(PlainScene(space, filled, store).rows) <= 64:
                good = always_ends(space, filled, store)
                seen[good] += 1
                try:
                    runs_in(space, surrounding, text, store)
                    self.assertTrue(good)
                except MayGoOn:
                    self.assertFalse(good)
        self.assertGreater(min(seen.values()), 10)

    def test_spoilt(self):
        seen = 0
        for space, surrounding, text, store, scene in self.drawn_around(813, 200, deep=2):
            if not 1 < len(scene.rows) < 5 or leads_to_never(scene) or scene.staying():
                continue
            seen += 1
            if seen > 8:
                break
            told = runs_in(space, surrounding, text, store)
            longer = told[:3] + ([(row, 10 ** 6 * (one + 3)) for row, one in told[3]],)
            for value in (told, longer):
                for other in spoilt(value):
                    self.assertIs(is_runs(space, surrounding, text, store, other), plain_is_runs(scene, other), other)
        self.assertGreater(seen, 5)

    def test_any_values(self):
        for surrounding, text, store in [(ROUND, COIN, 0), (ROUND, SKIP, 0), (HOLE, HANG, 0), (ROUND, COIN, 1)]:
            scene = around(TWO, surrounding, text, store)
            good = (Ratio(3, 2), [(HEAD, Ratio(3, 2)), (TAKE, Ratio(3, 2))], [(HEAD, 0), (TAKE, 0)], [(HEAD, 3), (TAKE, 2)])
            for value in any_values():
                changed = [good[:at] + (value,) + good[at + 1:] for at in range(4)]
                for other in [value, (value,) * 4, (value, [], [], []), (0, value, [], [])] + changed:
                    self.assertIs(is_runs(TWO, surrounding, text, store, other), plain_is_runs(scene, other), other)


class TestBound(NearlyCase):
    def test_against_means_of_what_is_filled(self):
        """[156]"""
        chance = random.Random(821)
        seen = tight = 0
        for space, text, other in self.drawn_both(822, 400, deep=2, sizes=(2,), most_eithers=1):
            surrounding = drawn_surrounding(Drawn(chance, sizes=(2,)), space, 2)
            store = chance.randrange(2)
            bound = self.ask(bound_in, space, surrounding, text, other, store)
            if type(bound) is tuple:
                continue
            self.assert_numbers([bound])
            self.assertEqual(bound, lead(space, text, other) * runs_in(space, surrounding, text, store)[0])
            scenes = [PlainScene(space, filled_with(surrounding, one), store) for one in (text, other)]
            if max(len(scene.eithers) for scene in scenes) > 5:
                continue
            seen += bound != 0
            for _ in range(3):
                payoff = [Ratio(chance.choice([0, 1, 2, 4]), 4) for _ in range(3)]
                more = scenes[0].best(payoff) - scenes[1].best(payoff)
                self.assertLessEqual(more, fraction(bound))
                tight += bound != 0 and more == fraction(bound)
        self.assertGreater(seen, 20)
        self.assertGreater(tight, 3)

    def test_small(self):
        double = ("then", HOLE, HOLE)
        for surrounding, text, other, store, bound in [
                (HOLE, QUARTER, FORK, 0, Ratio(1, 4)), (double, QUARTER, FORK, 0, Ratio(1, 2)), (HOLE, FORK, FORK, 0, 0),
                (double, SKIP, HANG, 0, 2), (("then", double, HOLE), SKIP, ("set", 0, [1, 1]), 1, 3), (ROUND, COIN, COIN, 0, 0),
                (("if", [1], HOLE, SKIP), SKIP, HANG, 0, 0), (("either", double, HOLE), COIN, SKIP, 1, Ratio(4, 3))]:
            self.assertEqual(bound_in(TWO, surrounding, text, other, store), bound)
            self.assert_numbers([bound_in(TWO, surrounding, text, other, store)])


class TestBounds(NearlyCase):
    def test_which_error_comes_first(self):
        for space in WRONG_SPACES:
            for function, more in [(lead, 2), (lead_paper, 2), (is_lead, 3), (runs_in, 3), (is_runs, 4), (bound_in, 4)]:
                self.assert_raises_with(InvalidSpace, space, function, space, *[None] * more)
        for text in WRONG_TEXTS:
            for function, more in [(lead, ()), (lead_paper, ()), (is_lead, (None,))]:
                self.assert_raises_with(InvalidText, text, function, TWO, text, None, *more)
                self.assert_raises_with(InvalidOther, text, function, TWO, SKIP, text, *more)
                wrong = [text]
                self.assert_raises_with(InvalidOther, wrong, function, EIGHT, with_rows(72), wrong, *more)
            for function, more in [(runs_in, ()), (is_runs, (None,)), (bound_in, (None,))]:
                self.assert_raises_with(InvalidText, text, function, TWO, HOLE, text, None, *more)
            self.assert_raises_with(InvalidOther, text, bound_in, TWO, HOLE, SKIP, text, None)
        for surrounding in WRONG_AROUND:
            for function, more in [(runs_in, (None, None)), (is_runs, (None, None, None)), (bound_in, (None, None, None))]:
                self.assert_raises_with(InvalidSurrounding, surrounding, function, TWO, surrounding, *more)
        for store in WRONG_STORES:
            self.assert_raises_with(InvalidStore, store, runs_in, TWO, HOLE, SKIP, store)
            self.assert_raises_with(InvalidStore, store, is_runs, TWO, HOLE, SKIP, store, None)
            self.assert_raises_with(InvalidStore, store, bound_in, TWO, HOLE, SKIP, SKIP, store)
        self.assert_raises_with(InvalidStore, 8, runs_in, EIGHT, HOLE, with_rows(72), 8)
        self.assert_raises_with(InvalidStore, 8, bound_in, EIGHT, HOLE, with_rows(72), with_rows(72), 8)

    def test_rows(self):
        full, more = with_rows(64), with_rows(65)
        self.assertEqual([lead(EIGHT, full, full), lead(EIGHT, ("set", 0, [0] * 8), full)], [0, 1])
        for text, other, count in [(more, SKIP, 65), (full, more, 65), (with_rows(72), more, 72), (more, nested_eithers(7), 65)]:
            for function, extra in [(lead, ()), (lead_paper, ()), (is_lead, (None,))]:
                self.assert_too_many(count, function, EIGHT, text, other, *extra)
            self.assert_too_many(count, bound_in, EIGHT, HOLE, text, other, 0)
        for function, extra in [(runs_in, ()), (is_runs, (None,))]:
            self.assert_too_many(65, function, EIGHT, HOLE, more, 0, *extra)

    def test_eithers(self):
        # As if no store were told: what counts is the store from which most are met.
        seven, six, five = [("if", [1], nested_eithers(many), SKIP) for many in (7, 6, 5)]
        four = nested_eithers(4)
        self.assertEqual([lead(TWO, six, six), bound_in(TWO, HOLE, six, six, 0), runs_in(TWO, HOLE, six, 0)[0]], [0, 0, 1])
        self.assert_too_many(7, lead, TWO, seven, SKIP)
        self.assert_too_many(7, lead, TWO, SKIP, seven)
        self.assert_too_many(7, runs_in, TWO, HOLE, seven, 0)
        self.assert_too_many(7, is_runs, TWO, HOLE, seven, 0, None)
        self.assert_too_many(7, bound_in, TWO, HOLE, SKIP, seven, 0)
        self.assert_too_many(7, bound_in, TWO, HOLE, seven, nested_eithers(8), 0)
        self.assertEqual(lead_paper(TWO, four, four)[0], 0)
        self.assert_too_many(5, lead_paper, TWO, five, SKIP)
        self.assert_too_many(6, lead_paper, TWO, SKIP, six)
        for text, other in [(seven, SKIP), (SKIP, seven), (five, six)]:
            self.assertIs(is_lead(TWO, text, other, None), False)
        lists = [([], [[(1, (0,) * 7)]]), ([], [[(1, ())]])]
        self.assertIs(is_lead(TWO, ("if", [], SKIP, SKIP), ("if", [0], counted_eithers(7), SKIP), (0, lists, (0, (), [1, 1, 1], [
            (row, 1) for row in PlainScene(TWO, ("if", [0], counted_eithers(7), SKIP), 0).rows]))), True)

    def test_rows_of_surroundings(self):
        # Eight doors and 56 other rows, or one more.
        for ahead, rows in [(0, 64), (1, 65)]:
            inner = ("then", HOLE, ("draw", 2, (0, 1), (1, 1)))
            for at in range(5):
                inner = ("then", ("draw", at % 3, (0, 1), (1, 1)), inner)
            surrounding = ("while", list(range(8)), inner)
            for _ in range(ahead):
                surrounding = ("then", ("draw", 0, (0, 1), (1, 1)), ("then", ("set", 0, [0] * 8), surrounding))
            self.assertEqual(len(around(EIGHT, surrounding, SKIP, 0).rows), rows)
            if rows == 64:
                self.assertRaises(MayGoOn, runs_in, EIGHT, surrounding, SKIP, 0)
                self.assertIs(is_runs(EIGHT, surrounding, SKIP, 0, None), False)
            else:
                self.assert_too_many(65, runs_in, EIGHT, surrounding, SKIP, 0)
                self.assert_too_many(65, is_runs, EIGHT, surrounding, SKIP, 0, None)

    def test_what_is_filled_may_be_of_any_size_and_depth(self):
        deep = ("while", [0], ("while", [0], ("while", [0], ("while", [0], COIN))))
        surrounding = ("while", [0], ("while", [0], ("while", [0], ("while", [0], ("then", HOLE, ("then", HOLE, HOLE))))))
        told = runs_in(TWO, surrounding, deep, 0)
        self.assertEqual(told[0], 3)
        self.assertTrue(plain_is_runs(around(TWO, surrounding, deep, 0), told))
        self.assertEqual(bound_in(TWO, surrounding, deep, deep, 0), 0)
        long = SKIP
        for _ in range(11):
            long = ("then", COIN, long)
        self.assertEqual(runs_in(TWO, surrounding, long, 0)[0], Ratio(9, 2))


if __name__ == "__main__":
    unittest.main()
