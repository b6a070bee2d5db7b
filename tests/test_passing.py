"""Tests of endlots.passing: [131] to [135], with the head of their stage."""

import random
import unittest
from fractions import Fraction
from itertools import product

from asking import (
    COIN, EIGHT, FORK, FREE, HEAD, TAKE, TWO, AskCase, counted_eithers, nested_eithers, spoilt, with_rows,
)
from endlots.errors import InvalidLot, InvalidRow, NotBrought
from endlots.forward import ends
from endlots.hulls import distance
from endlots.passing import is_passing_paper, passed, passing_paper, struck_rows, through
from endlots.ratios import Ratio
from endlots.spaces import Space
from endlots.texts import is_text
from judges import plain_come_to, plain_is_passing, plain_is_tosses, plain_struck
from odd import any_values
from plain import SKIP, Drawn, PlainScene, is_end, lot_of_shares, mix, plain_is_against, shares_of
from test_lots import NO_LOTS

INNER = ((0, 0), 0)
NEST = ("while", [0], ("either", ("either", SKIP, SKIP), ("set", 0, [1, 1])))
WORDS = ("all", "some", "none")


def sure(outcome, never):
    return tuple(int(at == outcome) for at in range(never + 1))


class PassingCase(AskCase):
    def drawn_lots(self, seed, many, most_eithers=4, **bounds):
        """Texts with lots that are brought: corners, lots on edges, and lots within."""
        chance = random.Random(seed)
        drawn = Drawn(chance)
        for _ in range(many):
            space, text, store, scene = drawn.scene(chance.randrange(2, 6), most_eithers=most_eithers, **bounds)
            corners = ends(space, text, store)
            some = chance.sample(corners, min(len(corners), chance.randrange(1, 4)))
            for lot in {mix(some, [chance.randrange(1, 5) for _ in some]), chance.choice(corners)}:
                yield (space, text, store, scene, lot)

    def assert_tosses(self, scene, lot, tosses, rows):
        self.assertIs(type(tosses), list)
        self.assertTrue(plain_is_tosses(scene, lot, tosses))
        come = {row for _, dice in tosses for row in plain_come_to(scene, dice)}
        self.assertEqual(sorted(come), rows)


class TestPassed(PassingCase):
    def test_examples(self):
        self.assertEqual(passed(TWO, NEST, 0, (0, 1, 0)), [(HEAD, "all"), (TAKE, "all"), (INNER, "some")])
        self.assertEqual(passed(TWO, NEST, 0, (0, 1, 1))[2][1], "all")
        self.assertEqual([passed(TWO, NEST, 1, (0, 1, 0)), passing_paper(TWO, NEST, 0, (0, 1, 0), TAKE)], [[], ("all",)])
        self.assertEqual([struck_rows(TWO, NEST, 0, INNER), struck_rows(TWO, NEST, 0, TAKE)], [[INNER], [HEAD, TAKE, INNER]])
        paper = ("some", [(1, (1, 0))], [(1, [(1, 1), (1, 1)])])
        self.assertIs(is_passing_paper(TWO, NEST, 0, (0, 1, 0), INNER, paper), True)

    def test_by_name(self):
        self.assertEqual(passed(space=TWO, text=FREE, store=1, lot=(0, 1, 0)), [])
        self.assertEqual(struck_rows(space=TWO, text=FREE, store=0, row=TAKE), [HEAD, TAKE])
        self.assertEqual(through(space=TWO, text=FREE, store=1, lot=(0, 1, 0)), [(1, [])])
        self.assertEqual(passing_paper(space=TWO, text=FREE, store=0, lot=(0, 1, 0), row=HEAD), ("all",))
        self.assertIs(is_passing_paper(space=TWO, text=FREE, store=0, lot=(0, 1, 0), row=HEAD, value=("all",)), True)

    def test_small(self):
        text = ("either", ("either", SKIP, COIN), ("set", 0, [1, 1]))
        rows = [((), 0), ((0,), 0), ((0, 1), 0)]
        for lot, words in [
                ((1, 0, 0), "all all none"), ((0, 1, 0), "all none none"), ((1, 2, 0), "all all some"),
                ((1, 1, 0), "all all some"), ((1, 5, 0), "all all some")]:
            self.assertEqual(passed(TWO, text, 0, lot), list(zip(rows, words.split())), lot)
        # What all of both sides bring.
        both = ("either", ("then", COIN, COIN), ("then", SKIP, ("draw", 0, (0, 1), (1, 2))))
        self.assertEqual([word for _, word in passed(TWO, both, 0, (1, 2, 0))], ["all", "some", "some", "some", "some"])

    def test_every_word_has_its_paper(self):
        seen = {word: 0 for word in WORDS}
        for space, text, store, scene, lot in self.drawn_lots(711, 90, least_rows=1):
            told = self.ask(passed, space, text, store, lot)
            self.assertEqual([row for row, _ in told], scene.rows)
            rows = [row for row, word in told if word != "none"]
            self.assert_tosses(scene, lot, self.ask(through, space, text, store, lot), rows)
            self.assertEqual(told[scene.rows.index(scene.place)][1], "all")
            for row, word in told:
                seen[word] += 1
                paper = self.ask(passing_paper, space, text, store, lot, row)
                self.assertEqual(paper[0], word)
                self.assertTrue(plain_is_passing(scene, lot, row, paper), paper)
                self.assertIs(is_passing_paper(space, text, store, lot, row, paper), True)
                if word == "all":
                    self.assertEqual(len(paper) == 1, scene.place in plain_struck(scene, row))
                    self.assert_numbers([number for _, number in paper[2]] if len(paper) > 1 else [])
                if word == "none":
                    self.assert_numbers([number for _, number in paper[2]])
        self.assertGreater(min(seen.values()), 20)

    def test_picks_that_bring_the_lot(self):
        """Rows that a pick passes that brings the lot are not passed by none, those it does not pass not by all."""
        for space, text, store, scene, lot in self.drawn_lots(712, 60, least_eithers=1):
            words = dict(passed(space, text, store, lot))
            for pick in scene.picks():
                if scene.lot_by(pick) == lot:
                    come = plain_come_to(scene, scene.dice_of(pick))
                    self.assertTrue(all(words[row] != "none" for row in come))
                    self.assertTrue(all(words[row] != "all" for row in scene.rows if row not in come))

    def test_some_alone_by_dice(self):
        self.assertEqual(passing_paper(TWO, NEST, 0, (0, 1, 0), INNER)[0], "some")
        # No pick that comes to the inner either brings the store 1.
        scene = PlainScene(TWO, NEST, 0)
        for pick in scene.picks():
            if scene.lot_by(pick) == (0, 1, 0):
                self.assertNotIn(INNER, plain_come_to(scene, scene.dice_of(pick)))
        self.assert_tosses(scene, (0, 1, 0), through(TWO, NEST, 0, (0, 1, 0)), [HEAD, TAKE, INNER])
        self.assert_tosses(scene, (0, 0, 1), through(TWO, NEST, 0, (0, 0, 1)), [HEAD, TAKE, INNER])
        self.assert_tosses(scene, (0, 3, 2), through(TWO, NEST, 0, (0, 3, 2)), [HEAD, TAKE, INNER])

    def test_first_places_that_are_ends(self):
        self.assertEqual([passed(TWO, SKIP, 0, (1, 0, 0)), through(TWO, SKIP, 0, (1, 0, 0))], [[], [(1, [])]])
        for function in (passed, through):
            with self.assertRaises(NotBrought) as caught:
                function(TWO, SKIP, 0, (0, 1, 0))
            self.assertTrue(plain_is_against(PlainScene(TWO, SKIP, 0), (0, 1, 0), (caught.exception.payoff, caught.exception.table)))
        self.assert_raises_with(InvalidRow, HEAD, struck_rows, TWO, SKIP, 0, HEAD)

    def test_lots_that_are_not_brought(self):
        for text, store, lot in [(FREE, 0, (1, 1, 0)), (COIN, 0, (1, 1, 0)), (FORK, 1, (1, 0, 0)), (NEST, 0, (1, 10 ** 90, 0))]:
            scene = PlainScene(TWO, text, store)
            row = scene.rows[0]
            for function, more in [(passed, ()), (through, ()), (passing_paper, (row,))]:
                told = self.ask(function, TWO, text, store, lot, *more)
                self.assertEqual(told[0], "NotBrought")
                with self.assertRaises(NotBrought) as caught:
                    function(TWO, text, store, lot, *more)
                self.assertTrue(plain_is_against(scene, lot, (caught.exception.payoff, caught.exception.table)))
            # The judge answers also if the lot is not brought.
            self.assertIs(is_passing_paper(TWO, text, store, lot, row, ("all",)), True)


def courses_of(scene, place):
    """What each chooser who tosses no coins brings from a place on, with the rows that it passes; there is no round."""
    if is_end(place):
        return {(sure(place, scene.never), frozenset())}
    found = set()
    for move in scene.moves[place]:
        weights = [weight for _, weight in move]
        for chosen in product(*[sorted(courses_of(scene, to), key=repr) for to, _ in move]):
            rows = frozenset([place]).union(*[passed_rows for _, passed_rows in chosen])
            found.add((mix([lot for lot, _ in chosen], weights), rows))
    return found


def has_share(lots, lot, part):
    """Whether some blend of the lots that is the lot has a share of a part: a little less of it leaves a blend of them."""
    little = Fraction(1, 10 ** 12)
    shares = [(1 + little) * one - little * other for one, other in zip(shares_of(lot), shares_of(part))]
    if min(shares) < 0:
        return False
    return distance(lots, lot_of_shares(shares))[0] == 0


class TestAllChoosers(PassingCase):
    def test_words_against_all_choosers(self):
        """In texts without rounds each chooser is a blend of those who toss no coins, whatever they remember."""
        chance = random.Random(715)
        drawn = Drawn(chance, sizes=(3,), weights=((1, 1), (1, 2)))
        drawn_kinds = "draw then then if either either"
        seen = {word: 0 for word in WORDS}
        texts = 0
        while texts < 60:
            space = Space([3])
            text = drawn.text(space, chance.randrange(2, 5), drawn_kinds)
            scene = PlainScene(space, text, 0)
            if not is_text(space, text) or not 1 <= len(scene.eithers) <= 4 or len(scene.rows) > 9:
                continue
            courses = courses_of(scene, scene.place)
            lots = sorted({lot for lot, _ in courses})
            if len(lots) > 40:
                continue
            texts += 1
            for lot in {chance.choice(lots), mix(chance.sample(lots, min(2, len(lots))), [1, 2][:len(lots)])}:
                for row, word in passed(space, text, 0, lot):
                    without = sorted({other for other, rows in courses if row not in rows})
                    coming = {other for other, rows in courses if row in rows}
                    if not without or distance(without, lot)[0] != 0:
                        told = "all"
                    else:
                        told = "some" if any(has_share(lots, lot, part) for part in coming) else "none"
                    self.assertEqual(word, told)
                    seen[word] += 1
        self.assertGreater(min(seen.values()), 20)


class TestStruck(PassingCase):
    def test_against_the_words(self):
        chance = random.Random(713)
        drawn = Drawn(chance)
        for _ in range(80):
            space, text, store, scene = drawn.scene(chance.randrange(2, 6), most_eithers=9, least_rows=1)
            for row in scene.rows:
                told = self.ask(struck_rows, space, text, store, row)
                self.assertEqual(told, plain_struck(scene, row))
                for other in scene.rows:
                    if other not in told:
                        self.assertTrue(any(not any(place in told for place, _ in move) for move in scene.moves[other]))

    def test_rows_to_which_nothing_kept_leads(self):
        text = ("then", ("either", SKIP, SKIP), ("either", SKIP, SKIP))
        first, second = ((0,), 0), ((1,), 0)
        self.assertEqual(struck_rows(TWO, text, 0, first), [first])
        self.assertEqual(struck_rows(TWO, text, 0, second), [first, second])
        # A row of a round that is left by one side is not struck with what that side leads to.
        text = ("while", [0], ("either", SKIP, ("draw", 0, (0, 1), (1, 1))))
        self.assertEqual(struck_rows(TWO, text, 0, ((0, 1), 0)), [((0, 1), 0)])
        self.assertEqual(struck_rows(TWO, text, 0, TAKE), [HEAD, TAKE, ((0, 1), 0)])


class TestJudged(PassingCase):
    def test_spoilt(self):
        seen = {}
        for space, text, store, scene, lot in self.drawn_lots(714, 300, most_eithers=2, least_eithers=1, most_rows=5):
            for row in scene.rows:
                paper = passing_paper(space, text, store, lot, row)
                kind = (paper[0], len(paper))
                if seen.get(kind, 0) > 7:
                    continue
                seen[kind] = seen.get(kind, 0) + 1
                for other in spoilt(paper):
                    told = is_passing_paper(space, text, store, lot, row, other)
                    self.assertIs(told, plain_is_passing(scene, lot, row, other), other)
                for other in scene.rows:
                    told = is_passing_paper(space, text, store, lot, other, paper)
                    self.assertIs(told, plain_is_passing(scene, lot, other, paper))
        self.assertEqual(sorted(seen), [("all", 1), ("all", 3), ("none", 4), ("some", 3)])
        self.assertGreater(min(seen.values()), 4)

    def test_other_papers_for_none(self):
        text = ("either", ("either", SKIP, COIN), ("set", 0, [1, 1]))
        rows = [((), 0), ((0,), 0), ((0, 1), 0)]
        scene = PlainScene(TWO, text, 0)
        table = [(rows[0], 3), (rows[1], 3), (rows[2], 1)]
        for value, good in [
                (("none", [3, 0, 0], table, rows[:2]), True), (("none", [3, 0, 0], table, tuple(rows[:2])), True),
                (("none", [3, 0, 0], table, rows[:1]), False), (("none", [3, 0, 0], table, rows[1:2]), False),
                (("none", [3, 0, 0], table, rows), False), (("none", [3, 0, 0], table, rows[1::-1]), False),
                (("none", [3, 0, 0], [(row, 3) for row in rows], rows[:2]), False),
                (("none", [3, 3, 0], [(row, 3) for row in rows], rows[:2]), False),
                (("none", [3, 0, 0], table[:2] + [(rows[2], 0)], rows[:2]), False),
                (("none", [3, 0, 5], table, rows[:2]), True), (("none", [3, 0, 0], table), False),
                (("some", [3, 0, 0], table, rows[:2]), False), (("none", [3, 0], table, rows[:2]), False)]:
            self.assertIs(is_passing_paper(TWO, text, 0, (1, 0, 0), rows[2], value), good, value)
            self.assertIs(plain_is_passing(scene, (1, 0, 0), rows[2], value), good, value)

    def test_kept_rows_where_one_may_stay(self):
        # With the inner row struck nobody stays, and never may be told a high number.
        paper = ("all", [0, 0, 1], [(HEAD, 0), (TAKE, 0)])
        self.assertIs(is_passing_paper(TWO, NEST, 0, (0, 0, 1), INNER, paper), True)
        self.assertIs(is_passing_paper(TWO, NEST, 0, (0, 1, 0), INNER, paper), False)
        text = ("while", [0], ("either", ("either", SKIP, SKIP), SKIP))
        paper = ("all", [1, 0, 0], [(HEAD, 0), (TAKE, 0)])
        self.assertIs(is_passing_paper(TWO, text, 0, (1, 0, 0), INNER, paper), True)
        paper = ("all", [1, 0, 1], [(HEAD, 0), (TAKE, 0)])
        self.assertIs(is_passing_paper(TWO, text, 0, (1, 0, 0), INNER, paper), False)

    def test_any_values(self):
        scene = PlainScene(TWO, NEST, 0)
        for value in any_values():
            for row in scene.rows:
                for other in [value, (value,), ("all", value), ("all", value, []), ("all", [0, 0, 0], value), ("some", value, value),
                              ("some", [(1, (1, 0))], value), ("some", value, [(1, [(1, 1), (1, 1)])]), ("none", value, [], []),
                              ("some", [(1, (1, 0))], [(1, value)]), ("some", [(1, (1, 0))], [(value, [(1, 1), (1, 1)])]),
                              ("none", [0, 0, 0], value, []), ("none", [0, 0, 0], [(one, 0) for one in scene.rows], value),
                              ("none", [0, 0, 0], [(one, 0) for one in scene.rows], [value]), (value, [], [], [])]:
                    told = is_passing_paper(TWO, NEST, 0, (0, 1, 0), row, other)
                    self.assertIs(told, plain_is_passing(scene, (0, 1, 0), row, other), other)

    def test_weights_of_tosses(self):
        dice = [(1, 1), (1, 1)]
        for tosses, good in [
                ([(1, dice), (2, dice)], True), ([(1, dice), (1, dice)], True), ([(1, dice), (0, dice)], False), ([(2, dice), (-1, dice)], False),
                ([(1, dice), (True, dice)], False), ([(1, dice), (Ratio(1), dice)], False), ([(1, dice), (1, dice[:1])], False), ([], False)]:
            value = ("some", [(1, (1, 0))], tosses)
            self.assertIs(is_passing_paper(TWO, NEST, 0, (0, 1, 0), INNER, value), good, tosses)
            self.assertIs(plain_is_passing(PlainScene(TWO, NEST, 0), (0, 1, 0), INNER, value), good, tosses)

    def test_tosses_of_any_size(self):
        large = 10 ** 2000
        some = [(large, [(large, 1), (1, large)]), (1, [(2, 2), (0, 7)]), (1, [(2, 2), (0, 7)])]
        self.assertIs(is_passing_paper(TWO, NEST, 0, (0, 1, 0), INNER, ("some", [(large, (1, 0))], some)), True)
        self.assertIs(is_passing_paper(TWO, NEST, 0, (0, large - 1, 1), INNER, ("some", [(large, (1, 0))], some)), False)


class TestBounds(PassingCase):
    def test_rows(self):
        text, never = with_rows(64), sure(8, 8)
        self.assertEqual([word for _, word in passed(EIGHT, text, 0, never)].count("none"), 0)
        for count in (65, 72, 104):
            text = with_rows(count)
            place = PlainScene(EIGHT, text, 0).place
            for function, more in [(passed, ()), (through, ()), (passing_paper, (place,))]:
                self.assert_too_many(count, function, EIGHT, text, 0, sure(8, 8), *more)
                self.assert_too_many(count, function, EIGHT, text, 0, sure(7, 8), *more)
            self.assertIn(place, struck_rows(EIGHT, text, 0, place))
            self.assertIs(is_passing_paper(EIGHT, text, 0, sure(7, 8), place, ("all",)), True)
            self.assertIs(is_passing_paper(EIGHT, text, 0, sure(7, 8), place, ("none",)), False)

    def test_eithers(self):
        self.assertEqual([word for _, word in passed(TWO, nested_eithers(6), 0, (1, 0, 0))], ["all"] + ["some"] * 5)
        self.assertEqual([word for _, word in passed(TWO, counted_eithers(6), 0, (1, 0, 0))], ["all"] * 6)
        for text, count in [(counted_eithers(7), 7), (nested_eithers(11), 11)]:
            place = PlainScene(TWO, text, 0).place
            for function, more in [(passed, ()), (through, ()), (passing_paper, (place,))]:
                self.assert_too_many(count, function, TWO, text, 0, (1, 0, 0), *more)
                self.assert_too_many(count, function, TWO, text, 0, (0, 1, 0), *more)
            self.assertIn(place, struck_rows(TWO, text, 0, place))
            self.assertIs(is_passing_paper(TWO, text, 0, (0, 1, 0), place, ("all",)), True)

    def test_which_error_comes_first(self):
        for function, more in [
                (passed, (None,)), (struck_rows, (None,)), (through, (None,)), (passing_paper, (None, None)),
                (is_passing_paper, (None, None, None))]:
            self.assert_first_errors(function, *more)
        for lot in NO_LOTS:
            for function, more in [(passed, ()), (through, ()), (passing_paper, (None,)), (is_passing_paper, (None, None))]:
                self.assert_raises_with(InvalidLot, lot, function, TWO, FREE, 0, lot, *more)
                self.assert_raises_with(InvalidLot, lot, function, EIGHT, with_rows(72), 0, lot, *more)
        # Rows that the text has, but that are not met, are wrong, too.
        for row in any_values() + [((0,), 1), ((1,), 0), ((0,), True), [(0,), 0], ([0], 0), ((False,), 0), ((0, 0), 0), ((0,), Ratio(0))]:
            self.assert_raises_with(InvalidRow, row, struck_rows, TWO, FREE, 0, row)
            for function, more in [(passing_paper, ()), (is_passing_paper, (None,))]:
                self.assert_raises_with(InvalidRow, row, function, TWO, FREE, 0, (1, 0, 0), row, *more)
        self.assert_raises_with(InvalidRow, HEAD, passing_paper, EIGHT, ("set", 0, [0] * 8), 0, sure(7, 8), HEAD)
        self.assert_raises_with(InvalidRow, ((9,), 0), passing_paper, EIGHT, with_rows(72), 0, sure(8, 8), ((9,), 0))

    def test_large_numbers(self):
        text = ("while", [0, 1, 2], ("then", ("draw", 0, (0, 1), (999983, 999979)), ("either", ("set", 0, [1, 2, 3, 3]), COIN)))
        space = Space([4])
        scene = PlainScene(space, text, 0)
        corners = ends(space, text, 0)
        for lot in corners + [mix(corners, list(range(1, len(corners) + 1)))]:
            told = passed(space, text, 0, lot)
            for row, word in told:
                self.assertTrue(plain_is_passing(scene, lot, row, passing_paper(space, text, 0, lot, row)))


if __name__ == "__main__":
    unittest.main()
