"""Tests of endlots.surely: [161] to [165], with the head of their stage."""

import random
import unittest
from itertools import combinations

from around import drawn_surrounding, filled_with, plain_ends
from asking import (
    COIN, EIGHT, FORK, FREE, HEAD, TAKE, TWO, WRONG_SPACES, WRONG_STORES, WRONG_TEXTS, AskCase, counted_eithers,
    nested_eithers, spoilt, with_rows,
)
from endlots.errors import InvalidOther, InvalidSet, InvalidSpace, InvalidStore, InvalidText
from endlots.forward import ends
from endlots.ratios import Ratio
from endlots.spaces import Space
from endlots.surely import going_round, is_just, is_surely, just, supports, surely, surely_all, surely_straight
from endlots.texts import is_straight, is_surrounding
from odd import any_values
from plain import (
    SKIP, Drawn, PlainScene, is_payoff_value, place_numbers, plain_is_blend, plain_is_pick, plain_is_table,
)
from test_standing import ANYTHING, HANG

TOSS = ("draw", 0, (0, 1), (1, 1))
NO_SETS = [
    None, {}, "", "0", 0, [], (), [True], [2], [-1], [0, 0], [1, 0], [0, 2], [None], [[0]], [Ratio(0)], ["0"], {"a": 0}, [0, 1, 2], TWO,
]


def all_sets(count):
    return [list(one) for many in range(1, count + 1) for one in combinations(range(count), many)]


def support_of(lot):
    return [outcome for outcome, weight in enumerate(lot) if weight]


def plain_is_surely(scene, stores, value):
    """By the words of [162]."""
    if type(value) is not tuple or len(value) != 2 or type(value[0]) is not str:
        return False
    if value[0] == "yes":
        return plain_is_pick(scene, value[1]) and set(support_of(scene.lot_by(value[1]))) <= set(stores)
    payoff = [int(outcome in stores) for outcome in range(scene.never + 1)]
    return value[0] == "no" and plain_is_table(scene, payoff, value[1]) and place_numbers(payoff, value[1])[scene.place] < 1


def plain_is_just(scene, stores, value):
    """By the words of [163]."""
    if type(value) is not tuple or not value or type(value[0]) is not str:
        return False
    if value[0] == "yes" and len(value) == 2:
        return plain_is_blend(scene, value[1]) and support_of(scene.blended_lot(value[1])) == list(stores)
    if value[0] == "no" and len(value) == 3:
        _, numbers, table = value
        if not is_payoff_value(numbers, scene.never + 1) or not plain_is_table(scene, numbers, table):
            return False
        if any(numbers[at] < 0 for at in stores) or not any(numbers[at] > 0 for at in stores):
            return False
        return place_numbers(numbers, table)[scene.place] <= 0
    return False


def unions(sets):
    """All unions of one or more of these sets."""
    found = [set()]
    for one in sets:
        found += [known | set(one) for known in found]
    return [known for known in found if known]


def plain_supports(scene):
    """The supports of lots of picks without a share of never that are no union of smaller ones of them; see below."""
    return sorted({tuple(support_of(scene.lot_by(pick))) for pick in scene.picks() if scene.lot_by(pick)[-1] == 0})


def comes_surely(scene, stores):
    return any(set(support_of(scene.lot_by(pick))) <= set(stores) for pick in scene.picks())


class SurelyCase(AskCase):
    def drawn_scenes(self, seed, many, most_eithers=3, **bounds):
        chance = random.Random(seed)
        drawn = Drawn(chance, sizes=bounds.pop("sizes", None))
        for _ in range(many):
            yield drawn.scene(chance.randrange(1, 6), most_eithers=most_eithers, **bounds)

    def drawn_both(self, seed, many, sizes=(2,), **bounds):
        drawn = Drawn(random.Random(seed), sizes=sizes)
        for _ in range(many):
            yield drawn.both(drawn.chance.randrange(1, 4), **bounds)


class TestSupports(SurelyCase):
    def test_examples(self):
        self.assertEqual([supports(TWO, TOSS, 0), surely(TWO, TOSS, 0, [0, 1]), surely(TWO, SKIP, 0, [1])], [[[0, 1]], ("yes", ()), ("no", [])])
        self.assertEqual([surely_straight(TWO, TOSS, SKIP), surely_all(TWO, TOSS, SKIP)], [True, False])
        self.assertEqual(going_round(TWO, SKIP, TOSS), (("hole",), 0, [0]))
        self.assertEqual(going_round(TWO, TOSS, SKIP), (("while", (0,), ("then", ("set", 0, (0, 0)), ("hole",))), 0, [1]))
        self.assertIs(is_just(TWO, TOSS, 0, [1], ("no", [-1, 1, 0], [(((), 0), 0)])), True)

    def test_by_name(self):
        self.assertEqual(supports(space=TWO, text=SKIP, store=1), [[1]])
        self.assertEqual(surely(space=TWO, text=SKIP, store=1, stores=[1]), ("yes", ()))
        self.assertEqual(just(space=TWO, text=SKIP, store=1, stores=[1]), ("yes", [(1, ())]))
        self.assertIs(is_surely(space=TWO, text=SKIP, store=1, stores=[1], value=("yes", ())), True)
        self.assertIs(is_just(space=TWO, text=SKIP, store=1, stores=(1,), value=("yes", ((1, ()),))), True)
        self.assertIs(surely_straight(space=TWO, text=SKIP, other=SKIP), True)
        self.assertIs(surely_all(space=TWO, text=SKIP, other=SKIP), True)
        self.assertIs(going_round(space=TWO, text=SKIP, other=SKIP), None)

    def test_small(self):
        for text, store, told in [
                (SKIP, 0, [[0]]), (FORK, 0, [[0], [1]]), (FREE, 0, [[1]]), (HANG, 1, []), (ANYTHING, 0, [[0], [1]]), (COIN, 1, [[0, 1]]),
                # A lot between others is no corner, and its support does not stand there.
                (("either", COIN, FORK), 0, [[0], [1]]), (("either", COIN, SKIP), 0, [[0], [0, 1]]),
                # A share of never, however small, leaves a corner aside.
                (("either", ("then", ("draw", 0, (0, 1), (1, 10 ** 6)), ("while", [0], SKIP)), SKIP), 0, [[0]])]:
            self.assertEqual(self.ask(supports, TWO, text, store), told, text)

    def test_unions_are_all_supports(self):
        for space, text, store, scene in self.drawn_scenes(901, 100, least_rows=0):
            told = self.ask(supports, space, text, store)
            self.assertEqual(told, sorted({tuple(support_of(lot)): support_of(lot) for lot in ends(space, text, store) if not lot[-1]}.values()))
            every = unions(plain_supports(scene))
            self.assertEqual({tuple(sorted(one)) for one in unions(told)}, {tuple(sorted(one)) for one in every})


class TestSurely(SurelyCase):
    def test_all_sets(self):
        seen = {"yes": 0, "no": 0}
        for space, text, store, scene in self.drawn_scenes(902, 70, least_rows=0):
            known = supports(space, text, store)
            for stores in random.Random(store).sample(all_sets(len(space)), min(6, len(all_sets(len(space))))):
                told = self.ask(surely, space, text, store, stores)
                seen[told[0]] += 1
                self.assertEqual(told[0] == "yes", any(set(one) <= set(stores) for one in known))
                self.assertEqual(told[0] == "yes", comes_surely(scene, stores))
                self.assertTrue(plain_is_surely(scene, stores, told))
                self.assertIs(is_surely(space, text, store, stores, told), True)
                self.assertIs(is_surely(space, text, store, tuple(stores), (told[0], tuple(told[1]))), True)
                self.assert_numbers([number for _, number in told[1]] if told[0] == "no" else [])
        self.assertGreater(min(seen.values()), 80)

    def test_many_eithers(self):
        told = surely(TWO, counted_eithers(7), 0, [0])
        self.assertEqual([told[0], len(told[1])], ["yes", 7])
        text = nested_eithers(10, ("set", 0, [1, 1]))
        told = surely(TWO, text, 0, [1])
        self.assertEqual(told, ("yes", (0,) * 10))
        self.assertIs(is_surely(TWO, text, 0, [1], told), True)
        self.assertIs(is_surely(TWO, text, 0, [1], ("yes", (0,) * 9 + (1,))), False)

    def test_going_on_is_no_end(self):
        self.assertEqual(surely(TWO, FREE, 0, [1]), ("yes", (1,)))
        self.assertEqual(surely(TWO, HANG, 0, [0, 1])[0], "no")
        self.assertIs(is_surely(TWO, FREE, 0, [1], ("yes", (0,))), False)
        self.assertIs(is_surely(TWO, FREE, 0, [0], ("no", [(HEAD, 0), (TAKE, 0)])), True)
        self.assertIs(is_surely(TWO, FREE, 0, [0], ("no", [(HEAD, Ratio(999, 1000)), (TAKE, Ratio(999, 1000))])), True)
        self.assertIs(is_surely(TWO, FREE, 0, [0], ("no", [(HEAD, 1), (TAKE, 1)])), False)
        self.assertIs(is_surely(TWO, FREE, 0, [0], ("no", [(HEAD, -1), (TAKE, -1)])), False)

    def test_spoilt(self):
        seen = {"yes": 0, "no": 0}
        for space, text, store, scene in self.drawn_scenes(903, 90, most_rows=5, most_eithers=2, sizes=(2,)):
            for stores in ([0], [1], [0, 1]):
                told = surely(space, text, store, stores)
                seen[told[0]] += 1
                if seen[told[0]] < 12:
                    for other in spoilt(told):
                        self.assertIs(is_surely(space, text, store, stores, other), plain_is_surely(scene, stores, other), other)
        self.assertGreater(min(seen.values()), 11)


class TestJust(SurelyCase):
    def test_all_sets(self):
        seen = {"yes": 0, "no": 0}
        for space, text, store, scene in self.drawn_scenes(904, 70, least_rows=0):
            every = [sorted(one) for one in unions(plain_supports(scene))]
            for stores in random.Random(store).sample(all_sets(len(space)), min(6, len(all_sets(len(space))))) + every[:3]:
                told = self.ask(just, space, text, store, stores)
                seen[told[0]] += 1
                self.assertEqual(told[0] == "yes", stores in every)
                self.assertTrue(plain_is_just(scene, stores, told), told)
                self.assertIs(is_just(space, text, store, stores, told), True)
                self.assertIs(is_just(space, text, store, tuple(stores), (told[0], *[tuple(one) for one in told[1:]])), True)
                self.assert_numbers([number for _, number in told[2]] if told[0] == "no" else [])
        self.assertGreater(min(seen.values()), 50)

    def test_small(self):
        three = Space([3])
        text = ("either", ("set", 0, [0] * 3), ("draw", 0, (1, 2), (1, 999)))
        for stores, good in [([0], True), ([1], False), ([2], False), ([0, 1], False), ([1, 2], True), ([0, 1, 2], True), ([0, 2], False)]:
            told = just(three, text, 0, stores)
            self.assertEqual(told[0] == "yes", good)
            self.assertTrue(plain_is_just(PlainScene(three, text, 0), stores, told))
        self.assertIs(is_just(TWO, TOSS, 0, [1], ("no", [-2, 1, 7], [(((), 0), 0)])), True)
        self.assertIs(is_just(TWO, TOSS, 0, [1], ("no", [-2, 1, 7], [(((), 0), 1)])), False)
        self.assertIs(is_just(TWO, TOSS, 0, [1], ("no", [-1, 0, 0], [(((), 0), 0)])), False)
        self.assertIs(is_just(TWO, TOSS, 0, [0, 1], ("no", [-1, 1, 0], [(((), 0), 0)])), False)
        self.assertEqual(just(TWO, SKIP, 0, [1])[0], "no")
        self.assertEqual(just(TWO, HANG, 0, [1])[0], "no")

    def test_spoilt(self):
        seen = {"yes": 0, "no": 0}
        for space, text, store, scene in self.drawn_scenes(905, 90, most_rows=5, most_eithers=2, sizes=(2,)):
            for stores in ([0], [1], [0, 1]):
                told = just(space, text, store, stores)
                seen[told[0]] += 1
                if seen[told[0]] < 10:
                    for other in spoilt(told):
                        self.assertIs(is_just(space, text, store, stores, other), plain_is_just(scene, stores, other), other)
        self.assertGreater(min(seen.values()), 9)

    def test_any_values(self):
        for text, store in [(SKIP, 0), (FREE, 0), (TOSS, 0)]:
            scene = PlainScene(TWO, text, store)
            for value in any_values():
                for other in [value, (value,), ("yes", value), ("no", value), ("yes", [value]), ("yes", [(value, ())]), ("yes", [(1, value)]),
                              ("no", value, []), ("no", [0, 1, 0], value), (value, ()), (value, []), ("no", [value] * 3, [])]:
                    for stores in ([0], [1], [0, 1]):
                        self.assertIs(is_surely(TWO, text, store, stores, other), plain_is_surely(scene, stores, other))
                        self.assertIs(is_just(TWO, text, store, stores, other), plain_is_just(scene, stores, other))


class TestSurroundings(SurelyCase):
    def test_against_supports(self):
        seen = {}
        for space, text, other in self.drawn_both(911, 200, sizes=None, most_eithers=3):
            told = [[{*support_of(lot)} for lot in lots if not lot[-1]] for lots in plain_ends(space, text)]
            rest = [[{*support_of(lot)} for lot in lots if not lot[-1]] for lots in plain_ends(space, other)]
            straight = all(any(two <= one for two in others) for sets, others in zip(told, rest) for one in sets)
            every = all(one in unions(others) for sets, others in zip(told, rest) for one in sets)
            self.assertIs(self.ask(surely_straight, space, text, other), straight)
            self.assertIs(self.ask(surely_all, space, text, other), every)
            found = self.ask(going_round, space, text, other)
            self.assertEqual(found is None, every)
            seen[straight, every] = seen.get((straight, every), 0) + 1
            if found is not None:
                self.assert_round(space, text, other, found)
        self.assertEqual(sorted(seen), [(False, False), (True, False), (True, True)])
        self.assertGreater(min(seen.values()), 5)

    def assert_round(self, space, text, other, found):
        """The surrounding filled with the text comes surely from the store into the set, with the other one not."""
        surrounding, store, stores = found
        self.assertTrue(is_surrounding(space, surrounding))
        self.assertEqual([type(store), type(stores)], [int, list])
        self.assertTrue(comes_surely(PlainScene(space, filled_with(surrounding, text), store), stores))
        self.assertFalse(comes_surely(PlainScene(space, filled_with(surrounding, other), store), stores))
        if surrounding != ("hole",):
            guard, again = surrounding[1:]
            self.assertEqual(store, guard[0])
            self.assertNotIn(stores[0], guard)
            for name in range(len(space.sizes)):
                self.assertEqual(again[1][:2], ("set", name))
                self.assertEqual(len(set(again[1][2])), 1)
                again = again[2]
            self.assertEqual(again, ("hole",))

    def test_forms(self):
        two = Space([2, 2])
        draw = ("draw", 1, (0, 1), (1, 2))
        self.assertEqual(going_round(two, draw, ("set", 1, [0] * 4)), (
            ("while", (0,), ("then", ("set", 0, (0,) * 4), ("then", ("set", 1, (0,) * 4), ("hole",)))), 0, [1]))
        self.assertEqual(going_round(two, draw, ("if", [0, 1], draw, ("set", 1, [1] * 4))), (
            ("while", (3,), ("then", ("set", 0, (1,) * 4), ("then", ("set", 1, (0,) * 4), ("hole",)))), 3, [2]))
        three = going_round(EIGHT, ("draw", 2, (0, 1), (1, 2)), SKIP)
        again = ("then", ("set", 0, (0,) * 8), ("then", ("set", 1, (0,) * 8), ("then", ("set", 2, (0,) * 8), ("hole",))))
        self.assertEqual(three, (("while", (0,), again), 0, [1]))
        space = Space([3])
        text = ("draw", 0, (1, 2), (1, 2))
        self.assertEqual(going_round(space, text, ("either", ("set", 0, [0] * 3), HANG)), (("hole",), 0, [1, 2]))
        wide = ("then", ("draw", 0, (0, 1), (1, 1)), ("if", [0], ("draw", 0, (0, 2), (1, 1)), SKIP))
        self.assertEqual(going_round(space, wide, ("set", 0, [1] * 3)), (("while", (1, 2), ("then", ("set", 0, (0, 0, 0)), ("hole",))), 1, [0]))

    def test_straight_ones_and_others(self):
        """[164], for drawn surroundings."""
        chance = random.Random(912)
        drawn = Drawn(chance, sizes=(2,))
        seen = {True: 0, False: 0}
        for space, text, other in self.drawn_both(913, 150, most_eithers=1):
            straight, every = surely_straight(space, text, other), surely_all(space, text, other)
            surrounding = drawn_surrounding(drawn, space, 2)
            if not (every or straight and is_straight(surrounding)):
                continue
            for store in range(2):
                scenes = [PlainScene(space, filled_with(surrounding, one), store) for one in (text, other)]
                if max(len(scene.eithers) for scene in scenes) > 6:
                    continue
                for stores in all_sets(2):
                    if comes_surely(scenes[0], stores):
                        seen[every] += 1
                        self.assertTrue(comes_surely(scenes[1], stores))
        self.assertGreater(min(seen.values()), 10)

    def test_nothing_asked(self):
        for text, other, good in [(HANG, SKIP, True), (SKIP, HANG, False), (HANG, HANG, True), (COIN, TOSS, True), (ANYTHING, FORK, False)]:
            self.assertEqual([surely_straight(TWO, text, other), surely_all(TWO, text, other)], [good, good])
        self.assertEqual(surely_straight(TWO, ANYTHING, ("either", ("set", 0, [0, 0]), ("set", 0, [1, 1]))), True)


class TestBounds(SurelyCase):
    def test_which_error_comes_first(self):
        for function, more in [(surely, (None,)), (just, (None,)), (is_surely, (None, None)), (is_just, (None, None)), (supports, ())]:
            self.assert_first_errors(function, *more)
        for function, more in [(surely, ()), (just, ()), (is_surely, (None,)), (is_just, (None,))]:
            for stores in NO_SETS:
                self.assert_raises_with(InvalidSet, stores, function, TWO, FREE, 0, stores, *more)
            for stores in ([8], [], None):
                self.assert_raises_with(InvalidSet, stores, function, EIGHT, with_rows(72), 0, stores, *more)
        for function in (surely_straight, surely_all, going_round):
            for space in WRONG_SPACES:
                self.assert_raises_with(InvalidSpace, space, function, space, None, None)
            for text in WRONG_TEXTS:
                self.assert_raises_with(InvalidText, text, function, TWO, text, None)
                self.assert_raises_with(InvalidOther, text, function, TWO, SKIP, text)
            self.assert_raises_with(InvalidOther, None, function, EIGHT, with_rows(72), None)
        for store in WRONG_STORES:
            self.assert_raises_with(InvalidStore, store, surely, TWO, SKIP, store, [])

    def test_rows(self):
        text = with_rows(64)
        self.assertEqual([supports(EIGHT, text, 0), surely(EIGHT, text, 0, [1])[0], just(EIGHT, text, 0, [1])[0]], [[], "no", "no"])
        self.assertEqual([surely_all(EIGHT, text, SKIP), surely_all(EIGHT, SKIP, text)], [True, False])
        for count in (65, 72):
            text = with_rows(count)
            for function, more in [(supports, ()), (surely, ([0],)), (just, ([0],)), (is_surely, ([0], None)), (is_just, ([0], None))]:
                self.assert_too_many(count, function, EIGHT, text, 0, *more)
            for function in (surely_straight, surely_all, going_round):
                self.assert_too_many(count, function, EIGHT, text, nested_eithers(7))
                self.assert_too_many(count, function, EIGHT, SKIP, text)

    def test_eithers(self):
        self.assertEqual(supports(TWO, counted_eithers(6), 0), [[0]])
        seven = ("if", [1], nested_eithers(7), SKIP)
        self.assertEqual([supports(TWO, seven, 0), just(TWO, seven, 0, [0])[0]], [[[0]], "yes"])
        for text, count in [(counted_eithers(7), 7), (nested_eithers(11), 11)]:
            self.assert_too_many(count, supports, TWO, text, 0)
            self.assert_too_many(count, just, TWO, text, 0, [0])
            self.assertEqual(surely(TWO, text, 0, [0])[0], "yes")
            self.assertIs(is_just(TWO, text, 0, [0], ("yes", [(2, (0,) * count)])), True)
            for function in (surely_straight, surely_all, going_round):
                self.assert_too_many(count, function, TWO, text, seven)
                self.assert_too_many(7, function, TWO, seven, text)
                self.assert_too_many(count, function, TWO, SKIP, text)


if __name__ == "__main__":
    unittest.main()
