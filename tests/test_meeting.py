"""Tests of endlots.meeting: [141] to [147], with the head of their stage."""

import random
import unittest

from asking import (
    COIN, EIGHT, FORK, FREE, HEAD, TAKE, TWO, WRONG_SPACES, WRONG_TEXTS, AskCase, counted_eithers, nested_eithers, spoilt,
    with_rows,
)
from endlots.errors import InvalidLots, InvalidPairs, InvalidSpace, InvalidText, NoCommon, NotBrought
from endlots.forward import brought
from endlots.meeting import could_be, is_could_be, is_meeting, is_no_common, meeting
from endlots.ratios import Ratio
from endlots.spaces import Space
from endlots.texts import is_text, part_at, parts, put_at
from judges import plain_is_could_be, plain_is_meeting, plain_is_no_common
from odd import any_values
from plain import SKIP, Drawn, PlainScene, mix, plain_is_against

TOSS = ("draw", 0, (0, 1), (1, 1))
NO_PAIRS = [
    None, [], (), {}, "", 0, [()], [None], [(FREE,)], [(FREE, 0, 0)], [[FREE, 0]], [(FREE, 2)], [(FREE, -1)], [(FREE, True)],
    [(FREE, None)], [(FREE, "0")], [(FREE, Ratio(0))], [(None, 0)], [(("hole",), 0)], [(["skip"], 0)], (FREE, 0),
    [(FREE, 0)] * 5, [(FREE, 0), (FREE, 2)], [(("set", 0, [0, 2]), 0)], [(0, FREE)],
]
NO_TOLD = [
    None, [], (), {}, "", [None], [None] * 3, [(1, 0, 0)], [(1, 0, 0), (1, 0)], [(1, 0, 0), (0, 0, 0)], [(1, 0, 0), (2, 0, 0)],
    [(1, 0, 0), [1, 0, 0]], [(1, 0, 0), True], [(1, 0, 0), 0], [(1, 0, 0), (True, 0, 0)], [(1, 0, 0), (1, 0, 0, 0)],
    [False, None], [(1, 0, 0), ()], [(1, 0, 0), (-1, 1, 1)], (1, 0, 0),
]


def sure(outcome, never):
    return tuple(int(at == outcome) for at in range(never + 1))


class MeetingCase(AskCase):
    def assert_one_of_both(self, space, pairs):
        """Either a lot is common or payoffs and tables show that none is; each judge finds its own good alone."""
        scenes = [PlainScene(space, text, store) for text, store in pairs]
        told = self.ask(meeting, space, pairs)
        if told[0] != "NoCommon":
            self.assertEqual([type(told), type(told[1])], [tuple, list])
            self.assertTrue(plain_is_meeting(scenes, told))
            self.assertIs(is_meeting(space, pairs, told), True)
            self.assertIs(is_meeting(space, tuple(pairs), (told[0], tuple(told[1]))), True)
            self.assertIs(is_no_common(space, pairs, told), False)
            return True
        with self.assertRaises(NoCommon) as caught:
            meeting(space, pairs)
        value = (caught.exception.payoffs, caught.exception.tables)
        self.assert_numbers([number for table in value[1] for _, number in table])
        self.assertTrue(all(type(number) is int for payoff in value[0] for number in payoff))
        self.assertTrue(plain_is_no_common(scenes, value))
        self.assertIs(is_no_common(space, pairs, value), True)
        self.assertIs(is_meeting(space, pairs, value), False)
        return False


class TestMeeting(MeetingCase):
    def test_examples(self):
        self.assertEqual(meeting(TWO, [(FORK, 0), (TOSS, 1)])[0], (1, 1, 0))
        self.assertEqual(meeting(TWO, [(FORK, 0), (FORK, 1)])[0], (0, 1, 0))
        value = ([[-1, 1, 0], [1, -1, 0]], [[(HEAD, 0)], []])
        self.assertIs(is_no_common(TWO, [(TOSS, 0), (SKIP, 0)], value), True)

    def test_by_name(self):
        self.assertEqual(meeting(space=TWO, pairs=[(SKIP, 1)]), ((0, 1, 0), [[(1, ())]]))
        self.assertIs(is_meeting(space=TWO, pairs=[(SKIP, 1)], value=((0, 1, 0), [[(1, ())]])), True)
        self.assertIs(is_no_common(space=TWO, pairs=[(SKIP, 1)], value=([[0, 0, 0]], [[]])), False)

    def test_small(self):
        for pairs, good in [
                ([(SKIP, 0)], True), ([(SKIP, 0), (SKIP, 1)], False), ([(FREE, 0), (FREE, 1)], True), ([(SKIP, 0)] * 4, True),
                ([(FREE, 0)] * 4, True), ([(TOSS, 0), (COIN, 0)], False), ([(TOSS, 0), (FORK, 0), (TOSS, 1)], True),
                ([(TOSS, 0), (FORK, 0), (SKIP, 0)], False), ([(SKIP, 0), (SKIP, 0), (SKIP, 1), (SKIP, 1)], False),
                ([(("while", [0], SKIP), 0), (FREE, 0)], True), ([(("while", [0], SKIP), 0), (FORK, 0)], False)]:
            self.assertEqual(self.assert_one_of_both(TWO, pairs), good, pairs)

    def test_two_by_two_but_not_all(self):
        space = Space([3])
        one, other, third = [("set", 0, [at] * 3) for at in range(3)]
        pairs = [(("either", one, other), 0), (("either", other, third), 1), (("either", third, one), 2)]
        for left in range(3):
            self.assertTrue(self.assert_one_of_both(space, pairs[:left] + pairs[left + 1:]))
        self.assertFalse(self.assert_one_of_both(space, pairs))
        anything = ("either", one, ("either", other, third))
        self.assertFalse(self.assert_one_of_both(space, pairs[:2] + [(anything, 0)] + pairs[2:]))
        self.assertTrue(self.assert_one_of_both(space, [(anything, at) for at in range(3)] + pairs[1:2]))

    def test_drawn(self):
        chance = random.Random(721)
        drawn = Drawn(chance, sizes=(3,))
        seen = {True: 0, False: 0}
        while min(seen.values()) < 40:
            space = Space([chance.choice([2, 3, 4])])
            drawn.sizes = space.sizes
            texts = [drawn.text(space, chance.randrange(1, 5)) for _ in range(chance.randrange(1, 5))]
            pairs = [(text, chance.randrange(len(space))) for text in texts]
            if len(pairs) == 2 and chance.random() < 0.3:
                pairs = [pairs[0], (pairs[0][0], chance.randrange(len(space)))]
            if not all(is_text(space, text) for text in texts):
                continue
            scenes = [PlainScene(space, text, store) for text, store in pairs]
            if max(len(scene.eithers) for scene in scenes) > 4 or max(len(scene.rows) for scene in scenes) > 40:
                continue
            seen[self.assert_one_of_both(space, pairs)] += 1

    def test_just_met(self):
        # They meet in one lot alone, and do not if one weight differs by the least.
        text = ("either", ("draw", 0, (0, 1), (999999, 1)), ("set", 0, [1, 1]))
        self.assertTrue(self.assert_one_of_both(TWO, [(text, 0), (("draw", 0, (0, 1), (999999, 1)), 0)]))
        self.assertFalse(self.assert_one_of_both(TWO, [(text, 0), (("draw", 0, (0, 1), (10 ** 6, 1)), 0)]))

    def test_blends_by_weights(self):
        """Lots that are met by no pick alone, with lots of different sums."""
        for one, other in [((1, 2), (1, 9)), ((3, 5), (1, 7)), ((5, 3), (1, 2)), ((999983, 7), (1, 3)), ((2, 1), (999, 1000))]:
            text = ("either", ("draw", 0, (0, 1), one), ("set", 0, [1, 1]))
            good = one[0] * sum(other) >= other[0] * sum(one)
            self.assertEqual(self.assert_one_of_both(TWO, [(text, 0), (("draw", 0, (0, 1), other), 1)]), good)
            third = ("either", ("set", 0, [0, 0]), ("draw", 0, (0, 1), (1, 12)))
            self.assertEqual(self.assert_one_of_both(TWO, [(third, 1), (text, 0), (("draw", 0, (0, 1), other), 1)]), good)
        space = Space([4])
        text = ("either", ("draw", 0, (0, 1), (1, 3)), ("either", ("draw", 0, (1, 2), (2, 5)), ("set", 0, [3] * 4)))
        wide = ("then", ("draw", 0, (0, 1), (1, 4)), ("if", [0], ("draw", 0, (0, 2), (2, 1)), ("draw", 0, (1, 3), (7, 2))))
        self.assert_one_of_both(space, [(text, 0), (wide, 1)])
        told = brought(space, text, 0, (7, 41, 50, 10, 0))
        self.assertEqual(len(told), 3)
        point = ("then", ("draw", 0, (0, 1), (7, 101)), ("if", [0], SKIP, ("then", ("draw", 0, (1, 2), (41, 60)), (
            "if", [2], ("draw", 0, (2, 3), (5, 1)), SKIP))))
        self.assertTrue(self.assert_one_of_both(space, [(text, 0), (point, 0)]))

    def test_spoilt(self):
        chance = random.Random(722)
        drawn = Drawn(chance, sizes=(2,), weights=((1, 1), (1, 2)))
        seen = {True: 0, False: 0}
        while min(seen.values()) < 6:
            told = [drawn.scene(3, most_rows=4, most_eithers=2) for _ in range(chance.randrange(1, 3))]
            pairs = [(text, store) for _, text, store, _ in told]
            scenes = [scene for _, _, _, scene in told]
            good = self.assert_one_of_both(TWO, pairs)
            seen[good] += 1
            if seen[good] > 8:
                continue
            if good:
                for other in spoilt(meeting(TWO, pairs)):
                    self.assertIs(is_meeting(TWO, pairs, other), plain_is_meeting(scenes, other), other)
            else:
                with self.assertRaises(NoCommon) as caught:
                    meeting(TWO, pairs)
                for other in spoilt((caught.exception.payoffs, caught.exception.tables)):
                    self.assertIs(is_no_common(TWO, pairs, other), plain_is_no_common(scenes, other), other)

    def test_numbers_of_any_size(self):
        large = 10 ** 3000
        pairs = [(TOSS, 0), (SKIP, 0)]
        self.assertIs(is_no_common(TWO, pairs, ([[-large, large, 0], [large, -large, 0]], [[(HEAD, 0)], []])), True)
        self.assertIs(is_no_common(TWO, pairs, ([[-large, large, 0], [large, 1 - large, 0]], [[(HEAD, 0)], []])), False)
        self.assertIs(is_no_common(TWO, pairs, ([[-large, large, 1], [large, -large, 0]], [[(HEAD, 0)], []])), False)
        self.assertIs(is_no_common(TWO, pairs, ([[-large, large, 0], [large, -large, 0]], [[(HEAD, Ratio(1, large))], []])), False)
        self.assertIs(is_no_common(TWO, pairs, ([[-large, large, 0], [large, -large, 0]], [[(HEAD, -large)], []])), False)
        # Sums of just 0 at the first places are not enough.
        self.assertIs(is_no_common(TWO, [(SKIP, 0)], ([[0, 0, 0]], [[]])), False)
        self.assertIs(is_meeting(TWO, [(FREE, 0)], ((0, large, 1), [[(large, (1,)), (1, (0,))]])), True)

    def test_never_binds_only_where_one_may_stay(self):
        pairs = [(FREE, 0), (SKIP, 0)]
        self.assertIs(is_no_common(TWO, pairs, ([[-1, 1, 1], [1, -1, -1]], [[(HEAD, 1), (TAKE, 1)], []])), True)
        self.assertIs(is_no_common(TWO, pairs, ([[-1, 1, 0], [1, -1, -1]], [[(HEAD, 1), (TAKE, 1)], []])), False)
        self.assertIs(is_no_common(TWO, pairs, ([[-1, 1, 0], [1, -1, -1]], [[(HEAD, 0), (TAKE, 0)], []])), True)
        pairs = [(TOSS, 0), (SKIP, 0)]
        self.assertIs(is_no_common(TWO, pairs, ([[-1, 1, -9], [1, -1, 9]], [[(HEAD, 0)], []])), True)
        self.assertIs(is_no_common(TWO, pairs, ([[-1, 1, -9], [1, -1, 10]], [[(HEAD, 0)], []])), False)

    def test_any_values(self):
        pairs = [(FREE, 0), (SKIP, 0)]
        scenes = [PlainScene(TWO, text, store) for text, store in pairs]
        for value in any_values():
            for other in [value, (value, value), ((0, 0, 1), value), ((0, 0, 1), [value, value]), (value, [[(1, ())]] * 2),
                          ([value] * 2, [[], []]), ([[1, -1, -1], [-1, 1, 1]], [value, []]), ([[1, 1, 1], value], [[], []])]:
                self.assertIs(is_meeting(TWO, pairs, other), plain_is_meeting(scenes, other))
                self.assertIs(is_no_common(TWO, pairs, other), plain_is_no_common(scenes, other))

    def test_errors(self):
        for space in WRONG_SPACES:
            for function, more in [(meeting, ()), (is_meeting, (None,)), (is_no_common, (None,))]:
                self.assert_raises_with(InvalidSpace, space, function, space, None, *more)
        for pairs in NO_PAIRS + any_values():
            for function, more in [(meeting, ()), (is_meeting, (None,)), (is_no_common, (None,))]:
                self.assert_raises_with(InvalidPairs, pairs, function, TWO, pairs, *more)
        self.assert_raises_with(InvalidPairs, NO_PAIRS, meeting, EIGHT, NO_PAIRS)
        wrong = [(with_rows(72), 0), (SKIP, 8)]
        self.assert_raises_with(InvalidPairs, wrong, meeting, EIGHT, wrong)

    def test_bounds(self):
        self.assertEqual(meeting(EIGHT, [(with_rows(64), 0)] * 4)[0], sure(8, 8))
        self.assertEqual(meeting(TWO, [(nested_eithers(6), 0), (counted_eithers(6), 0)])[0], (1, 0, 0))
        for pairs, count in [
                ([(with_rows(64), 0), (with_rows(65), 1)], 65), ([(with_rows(72), 0), (with_rows(65), 1)], 72),
                ([(with_rows(65), 0), (nested_eithers(7), 1)], 65), ([(SKIP, 0), (SKIP, 1), (with_rows(65), 0)], 65)]:
            for function, more in [(meeting, ()), (is_meeting, (None,)), (is_no_common, (None,))]:
                self.assert_too_many(count, function, EIGHT, pairs, *more)
        # Pair by pair: the either rows of the first come ahead of the rows of the second.
        pairs = [(nested_eithers(7), 0), (with_rows(72), 0)]
        self.assert_too_many(7, meeting, EIGHT, pairs)
        self.assert_too_many(72, is_meeting, EIGHT, pairs, None)
        self.assert_too_many(7, meeting, TWO, [(SKIP, 0), (SKIP, 1), (counted_eithers(7), 0)])
        pairs = [(counted_eithers(7), 0)]
        self.assertIs(is_meeting(TWO, pairs, ((1, 0, 0), [[(1, (0,) * 7)]])), True)
        self.assertIs(is_no_common(TWO, pairs, ((1, 0, 0), [[(1, (0,) * 7)]])), False)


class CouldCase(MeetingCase):
    def drawn_told(self, seed, many, most_eithers=3, least_deep=1, **bounds):
        """Texts with told lots that are brought, at all stores or at some."""
        chance = random.Random(seed)
        drawn = Drawn(chance)
        for _ in range(many):
            space, text, _, _ = drawn.scene(chance.randrange(least_deep, least_deep + 3), most_eithers=most_eithers, **bounds)
            scenes = [PlainScene(space, text, store) for store in range(len(space))]
            if max(len(scene.eithers) for scene in scenes) > most_eithers:
                continue
            lots = []
            for scene in scenes:
                corners = sorted({scene.lot_by(pick) for pick in scene.picks()})
                some = chance.sample(corners, min(len(corners), chance.randrange(1, 4)))
                lots.append(chance.choice([None, chance.choice(corners), mix(some, [chance.randrange(1, 4) for _ in some])]))
            yield (space, text, scenes, lots)


class TestCouldBe(CouldCase):
    def test_examples(self):
        loop = ("while", [0], FORK)
        self.assertEqual([told[:2] for told in could_be(TWO, loop, [(0, 0, 1), (0, 1, 0)])], [(0, [(TAKE, 0)]), (1, [])])
        self.assertEqual(could_be(TWO, loop, [(0, 1, 0), None])[0][1], [(TAKE, 0), (TAKE, 1)])
        table = [(HEAD, 0), (TAKE, 0)]
        value = [(0, [(TAKE, 0)], [(1, [(1, 0)])], [0, -1, 0], table)]
        self.assertIs(is_could_be(TWO, loop, [(0, 0, 1), None], value), True)

    def test_by_name(self):
        self.assertEqual(could_be(space=TWO, text=SKIP, lots=[None, None]), [])
        self.assertIs(is_could_be(space=TWO, text=SKIP, lots=(None, None), value=()), True)

    def test_drawn(self):
        sides = 0
        for space, text, scenes, lots in self.drawn_told(731, 110):
            told = self.ask(could_be, space, text, lots)
            self.assertIs(type(told), list)
            self.assertEqual([one[0] for one in told], [store for store, lot in enumerate(lots) if lot is not None])
            self.assertTrue(plain_is_could_be(scenes, lots, told))
            self.assertIs(is_could_be(space, text, lots, told), True)
            self.assertIs(is_could_be(space, text, tuple(lots), tuple(told)), True)
            for one in told:
                self.assert_numbers([number for _, number in one[4]])
                sides += len(one[1])
        self.assertGreater(sides, 60)

    def test_sides_of_picks(self):
        """Whatever a pick takes that brings the told lot stands in sides."""
        for space, text, scenes, lots in self.drawn_told(732, 60):
            for one in could_be(space, text, lots):
                scene = scenes[one[0]]
                for pick in scene.picks():
                    if scene.lot_by(pick) == lots[one[0]]:
                        dice = scene.dice_of(pick)
                        reach = scene.reach(scene.chances(dice))
                        for row, side in zip(scene.eithers, pick):
                            if row == scene.place or row in reach[scene.place]:
                                self.assertIn((row, side), one[1])

    def test_striking(self):
        """[147]"""
        seen = 0
        for space, text, _, lots in self.drawn_told(733, 260, least_deep=3, least_eithers=2, most_eithers=4):
            told = could_be(space, text, lots)
            taken = {(row[0], side) for one in told for row, side in one[1]}
            for path, part in parts(text):
                if part[0] != "either":
                    continue
                for side in (0, 1):
                    if (path, side) not in taken:
                        seen += 1
                        less = put_at(space, text, path, part_at(text, path + (1 - side,)))
                        for store, lot in enumerate(lots):
                            if lot is not None:
                                brought(space, less, store, lot)
        self.assertGreater(seen, 25)

    def test_lots_that_are_not_brought(self):
        for lots, at in [([(1, 1, 0), None], 0), ([None, (1, 0, 0)], 1), ([(0, 1, 0), (0, 0, 1)], 1), ([(1, 0, 0), (1, 0, 0)], 0)]:
            told = self.ask(could_be, TWO, FREE, lots)
            self.assertEqual(told[0], "NotBrought")
            with self.assertRaises(NotBrought) as caught:
                could_be(TWO, FREE, lots)
            paper = (caught.exception.payoff, caught.exception.table)
            self.assertTrue(plain_is_against(PlainScene(TWO, FREE, at), lots[at], paper))
            good = [(0, [(TAKE, 0)], [(1, [(1, 0)])], [0, -1, 0], [(HEAD, 0), (TAKE, 0)]), (1, [], [(1, [])], [0, 0, 0], [])]
            for value in ([], good[:1], good[1:], good):
                self.assertIs(is_could_be(TWO, FREE, lots, value), False)

    def test_told_values_that_are_not_least(self):
        table = [(HEAD, 0), (TAKE, 0)]
        for value, good in [
                ((0, [(TAKE, 0)], [(1, [(1, 0)])], [0, -1, 0], table), True), ((0, [(TAKE, 0)], [(1, [(9, 0)])] * 3, (0, -9, 0), table), True),
                ((0, [(TAKE, 0)], [(1, [(1, 0)])], [0, 0, 0], table), False), ((0, [], [(1, [(1, 0)])], [0, -1, 0], table), False),
                ((0, [(TAKE, 0), (TAKE, 1)], [(1, [(1, 0)])], [0, -1, 0], table), False),
                ((0, [(TAKE, 0), (TAKE, 1)], [(1, [(1, 0)])], [0, 0, 0], table), False),
                ((0, [(TAKE, 0)], [(1, [(1, 0)])], [0, -1, 1], table), False),
                ((0, [(TAKE, 0)], [(1, [(1, 0)])], [-5, -7, 1], [(HEAD, 1), (TAKE, 1)]), True),
                ((0, [(TAKE, 0)], [(1, [(1, 0)])], [-5, -7, 1], [(HEAD, 2), (TAKE, 2)]), False),
                ((1, [(TAKE, 0)], [(1, [(1, 0)])], [0, -1, 0], table), False), ((False, [(TAKE, 0)], [(1, [(1, 0)])], [0, -1, 0], table), False)]:
            self.assertIs(is_could_be(TWO, FREE, [(0, 0, 1), None], [value]), good, value)
            scenes = [PlainScene(TWO, FREE, store) for store in (0, 1)]
            self.assertIs(plain_is_could_be(scenes, [(0, 0, 1), None], [value]), good, value)

    def test_spoilt(self):
        seen = 0
        for space, text, scenes, lots in self.drawn_told(734, 400, least_deep=2, most_eithers=2, least_eithers=1, most_rows=4):
            if len(space) > 3 or all(lot is None for lot in lots):
                continue
            value = could_be(space, text, lots)
            if not any(one[1] for one in value):
                continue
            seen += 1
            if seen > 10:
                break
            for other in spoilt(value):
                self.assertIs(is_could_be(space, text, lots, other), plain_is_could_be(scenes, lots, other), other)
        self.assertGreater(seen, 5)

    def test_any_values(self):
        lots = [(0, 0, 1), None]
        scenes = [PlainScene(TWO, FREE, store) for store in (0, 1)]
        good = (0, [(TAKE, 0)], [(1, [(1, 0)])], [0, -1, 0], [(HEAD, 0), (TAKE, 0)])
        for value in any_values():
            self.assertIs(is_could_be(TWO, FREE, lots, value), False)
            for at in range(5):
                other = [good[:at] + (value,) + good[at + 1:]]
                self.assertIs(is_could_be(TWO, FREE, lots, other), plain_is_could_be(scenes, lots, other))
                self.assertIs(is_could_be(TWO, FREE, lots, [good[:at] + ([value],) + good[at + 1:]]), False)
            self.assertIs(is_could_be(TWO, FREE, lots, [good, value]), False)
            self.assertIs(is_could_be(TWO, FREE, [None, None], value), isinstance(value, (list, tuple)) and len(value) == 0)

    def test_errors(self):
        for space in WRONG_SPACES:
            for function, more in [(could_be, ()), (is_could_be, (None,))]:
                self.assert_raises_with(InvalidSpace, space, function, space, None, None, *more)
        for function, more in [(could_be, ()), (is_could_be, (None,))]:
            for text in WRONG_TEXTS:
                self.assert_raises_with(InvalidText, text, function, TWO, text, None, *more)
            for lots in NO_TOLD + any_values():
                self.assert_raises_with(InvalidLots, lots, function, TWO, FREE, lots, *more)
            self.assert_raises_with(InvalidLots, NO_TOLD, function, EIGHT, with_rows(72), NO_TOLD, *more)

    def test_bounds(self):
        none = [None] * 8
        self.assertEqual(len(could_be(EIGHT, with_rows(64), [sure(8, 8)] * 8)), 8)
        for count in (65, 72, 104):
            for lots in (none, [sure(7, 8)] + none[1:]):
                self.assert_too_many(count, could_be, EIGHT, with_rows(count), lots)
                self.assert_too_many(count, is_could_be, EIGHT, with_rows(count), lots, None)
        self.assertEqual(len(could_be(TWO, counted_eithers(6), [(1, 0, 0), None])[0][1]), 12)
        for text, count in [(counted_eithers(7), 7), (nested_eithers(11), 11)]:
            for lots in ([None, None], [(0, 1, 0), None]):
                self.assert_too_many(count, could_be, TWO, text, lots)
            self.assertIs(is_could_be(TWO, text, [None, None], []), True)
            self.assertIs(is_could_be(TWO, text, [(1, 0, 0), None], []), False)
        # Over all stores, also those without a told lot.
        text = ("if", [1], nested_eithers(7), SKIP)
        self.assert_too_many(7, could_be, TWO, text, [(1, 0, 0), None])
        self.assertEqual(len(could_be(TWO, ("if", [1], nested_eithers(6), SKIP), [(1, 0, 0), None])), 1)


if __name__ == "__main__":
    unittest.main()
