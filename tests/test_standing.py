"""Tests of endlots.standing: [7] and [101] to [107], with the head of their stage."""

import random
import unittest
from fractions import Fraction
from itertools import product
from math import gcd

from asking import (
    COIN, EIGHT, FORK, FREE, HEAD, TAKE, TWO, WRONG_SPACES, WRONG_TEXTS, AskCase, counted_eithers, nested_eithers, spoilt, with_rows,
)
from endlots.errors import InvalidOther, InvalidSpace, InvalidText, Outside
from endlots.forward import ends, is_against
from endlots.hulls import corners, shares_in
from endlots.ratios import Ratio
from endlots.spaces import Space
from endlots.standing import alike, closed_lists, is_closed, is_paper_for, paper_for, stands_for
from endlots.texts import fill, is_surrounding, is_text
from odd import any_values
from plain import (
    SKIP, Drawn, PlainScene, fraction, is_end, is_listed, is_lot_value, is_number, mix, plain_is_against, plain_is_brought,
    plain_is_pick, shares_of,
)
from test_picks import BIASED

HANG = ("while", [0, 1], SKIP)
ANYTHING = ("either", ("set", 0, [0, 0]), ("either", ("set", 0, [1, 1]), HANG))
LOOP = ("while", [0], ("either", SKIP, ("draw", 0, (0, 1), (1, 1))))
ONE = ("set", 0, [1, 1])


def sure(outcome, never):
    return tuple(int(at == outcome) for at in range(never + 1))


def all_lists(scene, told):
    lists = {outcome: [sure(outcome, scene.never)] for outcome in range(scene.never + 1)}
    lists.update(told)
    return lists


def choices_of(scene, lists, move):
    """What each choice for a move gives, in order."""
    return [
        mix([lists[place][at] for at, (place, _) in zip(choice, move)], [weight for _, weight in move])
        for choice in product(*[range(len(lists[place])) for place, _ in move])]


def plain_is_closed(scene, value):
    """By the words of [101] and [103]."""
    if not is_listed(value, scene.rows, 3):
        return False
    for _, lots, _ in value:
        if not isinstance(lots, (list, tuple)) or not lots or not all(is_lot_value(lot, scene.never + 1) for lot in lots):
            return False
    lists = all_lists(scene, {row: list(lots) for row, lots, _ in value})
    if not all(sure(scene.never, scene.never) in lists[row] for row in scene.staying()):
        return False
    for row, lots, shares in value:
        if not isinstance(shares, (list, tuple)) or len(shares) != len(scene.moves[row]):
            return False
        for move, told in zip(scene.moves[row], shares):
            given = choices_of(scene, lists, move)
            if not isinstance(told, (list, tuple)) or len(told) != len(given):
                return False
            if not all(plain_is_shares(lots, lot, one) for lot, one in zip(given, told)):
                return False
    return True


def plain_is_shares(lots, lot, value):
    if not isinstance(value, (list, tuple)) or len(value) != len(lots) or not all(is_number(one) for one in value):
        return False
    told = [fraction(one) for one in value]
    if min(told) < 0 or sum(told) != 1:
        return False
    return shares_of(lot) == [
        sum(one * shares_of(other)[at] for one, other in zip(told, lots)) for at in range(len(lot))]


def plain_is_paper_for(scenes, others, value):
    """By the words of [105] and [106]."""
    if type(value) is not tuple or not value or type(value[0]) is not str:
        return False
    if value[0] == "yes" and len(value) == 2:
        papers = value[1]
        if not isinstance(papers, (list, tuple)) or len(papers) != len(scenes):
            return False
        return all(plain_is_paper_from(*one) for one in zip(scenes, others, papers))
    if value[0] == "no" and len(value) == 5:
        _, store, pick, payoff, table = value
        if type(store) is not int or not 0 <= store < len(scenes) or not plain_is_pick(scenes[store], pick):
            return False
        return plain_is_against(others[store], scenes[store].lot_by(pick), (payoff, table))
    return False


def plain_is_paper_from(scene, other, paper):
    if type(paper) is not tuple or len(paper) != 2 or not plain_is_closed(scene, paper[0]):
        return False
    lots = all_lists(scene, {row: lots for row, lots, _ in paper[0]})[scene.place]
    if not isinstance(paper[1], (list, tuple)) or len(paper[1]) != len(lots):
        return False
    return all(plain_is_brought(other, lot, blend) for lot, blend in zip(lots, paper[1]))


def with_shares(scene, told):
    """Closed lists of these lots for each row, with shares that show it."""
    lists = all_lists(scene, told)
    return [
        (row, told[row], [[shares_in(told[row], lot) for lot in choices_of(scene, lists, move)] for move in scene.moves[row]])
        for row in scene.rows]


def scenes_of(space, text):
    return [PlainScene(space, text, store) for store in range(len(space))]


def lies_within(lots, others):
    """Whether all lots are blends of others."""
    for lot in lots:
        try:
            shares_in(others, lot)
        except Outside:
            return False
    return True


def plain_stands_for(space, text, other):
    for scene, second in zip(scenes_of(space, text), scenes_of(space, other)):
        lots, others = [sorted({one.lot_by(pick) for pick in one.picks()}) for one in (scene, second)]
        if not lies_within(lots, others):
            return False
    return True


def few(space, text):
    """Whether a value is a text of which few rows are met."""
    if not is_text(space, text):
        return False
    return all(len(scene.eithers) <= 4 and len(scene.rows) <= 24 for scene in scenes_of(space, text))


def holed(chance, text):
    """A text with a hole in the place of one of its parts."""
    inner = [at for at, item in enumerate(text) if isinstance(item, tuple) and item and isinstance(item[0], str)]
    if not inner or chance.random() < 0.2:
        return ("hole",)
    at = chance.choice(inner)
    return text[:at] + (holed(chance, text[at]),) + text[at + 1:]


class TestClosedLists(AskCase):
    def test_examples(self):
        lists = closed_lists(TWO, LOOP, 0)
        self.assertEqual([len(lists), str(lists[1][2][1][1][0]), is_closed(TWO, LOOP, 0, lists)], [3, "1/2", True])
        self.assertEqual(lists[1][:2], (((0,), 0), [(0, 0, 1), (0, 1, 0)]))
        self.assertEqual(lists[2][:2], (((0, 1), 0), [(0, 1, 0), (0, 1, 1)]))
        self.assertEqual([stands_for(TWO, ONE, LOOP), stands_for(TWO, LOOP, ONE)], [True, False])
        self.assertEqual(paper_for(TWO, SKIP, LOOP)[:3], ("no", 0, ()))
        self.assertIs(is_paper_for(TWO, ONE, LOOP, ("yes", [([], [[(1, (1,))]]), ([], [[(1, ())]])])), True)

    def test_by_name(self):
        told = closed_lists(space=TWO, text=FREE, store=1)
        self.assertEqual(told, [])
        self.assertIs(is_closed(space=TWO, text=FREE, store=1, value=told), True)
        self.assertIs(stands_for(space=TWO, text=ONE, other=LOOP), True)
        self.assertIs(alike(space=TWO, text=ONE, other=LOOP), False)
        paper = paper_for(space=TWO, text=ONE, other=LOOP)
        self.assertEqual(paper, ("yes", [([], [[(1, (1,))]]), ([], [[(1, ())]])]))
        self.assertIs(is_paper_for(space=TWO, text=ONE, other=LOOP, value=paper), True)

    def test_against_all_picks(self):
        chance = random.Random(701)
        drawn = Drawn(chance, weights=BIASED)
        for _ in range(60):
            space, text, store, scene = drawn.scene(chance.randrange(2, 6), most_rows=16, most_eithers=4, least_rows=0)
            told = self.ask(closed_lists, space, text, store)
            self.assertEqual([row for row, _, _ in told], scene.rows)
            lots = [scene.lots_by_dice(scene.dice_of(pick)) for pick in scene.picks()]
            for row, listed, shares in told:
                self.assertEqual(listed, corners(sorted({one[row] for one in lots})))
                self.assertIs(type(listed), list)
                self.assert_numbers([number for move in shares for one in move for number in one])
                self.assertEqual(self.kinds(shares), {list})
            self.assertTrue(plain_is_closed(scene, told))
            self.assertIs(is_closed(space, text, store, told), True)
            self.assertIs(is_closed(space, text, store, tuple(told)), True)
            if told:
                first = dict((row, listed) for row, listed, _ in told)[scene.place]
                self.assertEqual(first, ends(space, text, store))

    @staticmethod
    def kinds(shares):
        return {type(shares)} | {type(move) for move in shares} | {type(one) for move in shares for one in move}

    def test_choices_in_order(self):
        # The draw leads to two forks of which each has two lots: four choices, by the left one first.
        space = Space([4])
        forks = ("if", [0], ("either", SKIP, ("set", 0, [1, 1, 2, 3])), ("either", ("set", 0, [0, 1, 2, 3]), ("set", 0, [0, 1, 3, 3])))
        text = ("then", ("draw", 0, (0, 2), (1, 2)), forks)
        told = closed_lists(space, text, 0)
        self.assertEqual(told[0][0], ((0,), 0))
        self.assertEqual(told[0][1], [(0, 1, 0, 2, 0), (0, 1, 2, 0, 0), (1, 0, 0, 2, 0), (1, 0, 2, 0, 0)])
        self.assertEqual([str(number) for one in told[0][2][0] for number in one], "1 0 0 0 0 1 0 0 0 0 1 0 0 0 0 1".split())
        # Two equal places have a lot each in a choice.
        same = ("then", ("draw", 0, (0, 2), (1, 2)), ("then", ("set", 0, [0] * 4), ("either", SKIP, ("set", 0, [1] * 4))))
        told = closed_lists(space, same, 0)
        self.assertEqual([len(move) for move in told[0][2]], [4])
        self.assertEqual([str(one[0]) for one in told[0][2][0]], ["1", "1/3", "2/3", "0"])
        # Equal lots at two choices have a list of shares each.
        even = ("then", ("draw", 0, (0, 2), (1, 1)), same[2])
        told = self.ask(closed_lists, space, even, 0)
        self.assertEqual([str(one[0]) for one in told[0][2][0]], ["1", "1/2", "1/2", "0"])

    def test_no_rows(self):
        for text, store in [(SKIP, 0), (FREE, 1)]:
            self.assertEqual(self.ask(closed_lists, TWO, text, store), [])
            self.assertIs(is_closed(TWO, text, store, []), True)
            self.assertIs(is_closed(TWO, text, store, ()), True)
            self.assertIs(is_closed(TWO, text, store, [(HEAD, [(1, 0, 0)], [])]), False)

    def test_other_closed_lists(self):
        chance = random.Random(702)
        drawn = Drawn(chance)
        for _ in range(25):
            space, text, store, scene = drawn.scene(4, most_rows=8, most_eithers=3)
            never = scene.never
            everything = with_shares(scene, {row: [sure(at, never) for at in range(never + 1)][::-1] for row in scene.rows})
            least = {row: lots for row, lots, _ in closed_lists(space, text, store)}
            doubled = with_shares(scene, {row: lots[::-1] + [mix(lots, [1] * len(lots))] + lots for row, lots in least.items()})
            for value in (everything, doubled):
                self.assertTrue(plain_is_closed(scene, value))
                self.assertIs(is_closed(space, text, store, value), True)
            for row in scene.rows:
                short = {other: lots[1:] if other == row else lots for other, lots in least.items()}
                value = [(other, short[other], shares) for other, _, shares in closed_lists(space, text, store)]
                self.assertIs(is_closed(space, text, store, value), False)

    def test_never_is_in_the_lists_where_one_may_stay(self):
        lots = [(0, 1, 0)]
        value = with_shares(PlainScene(TWO, FREE, 0), {HEAD: lots, TAKE: lots})
        self.assertIs(is_closed(TWO, FREE, 0, value), False)
        both = [(0, 1, 0), (0, 0, 1)]
        value = with_shares(PlainScene(TWO, FREE, 0), {HEAD: both, TAKE: both})
        self.assertIs(is_closed(TWO, FREE, 0, value), True)
        # A blend that has never in it is not enough.
        wide = [(0, 1, 0), (1, 0, 1), (1, 0, 0)]
        value = [(HEAD, wide, [[[1, 0, 0], [0, 1, 0], [0, 0, 1]]]), (TAKE, wide, [[[1, 0, 0], [0, 1, 0], [0, 0, 1]], [[1, 0, 0]]])]
        self.assertIs(is_closed(TWO, FREE, 0, value), False)
        wide = wide + [(0, 0, 1)]
        units = [[int(at == one) for at in range(4)] for one in range(4)]
        value = [(HEAD, wide, [units]), (TAKE, wide, [units, units[:1]])]
        self.assertIs(is_closed(TWO, FREE, 0, value), True)

    def test_no_list_is_empty(self):
        # Without this, lists of no lots at all would show themselves closed.
        text = ("while", [0], COIN)
        self.assertIs(is_closed(TWO, text, 0, [(HEAD, [], [[]]), (TAKE, [], [[]])]), False)
        self.assertIs(is_closed(TWO, text, 0, [(HEAD, [(0, 1, 0)], [[[1]]]), (TAKE, [], [[]])]), False)
        self.assertIs(is_closed(TWO, text, 0, [(HEAD, [(0, 1, 0)], [[[1]]]), (TAKE, [(0, 1, 0)], [[[1]]])]), True)

    def test_spoilt(self):
        chance = random.Random(703)
        drawn = Drawn(chance, weights=((1, 1), (1, 2)))
        for _ in range(8):
            space, text, store, scene = drawn.scene(3, most_rows=4, most_eithers=2, least_eithers=1)
            value = closed_lists(space, text, store)
            for other in spoilt(value, (None,)):
                self.assertIs(is_closed(space, text, store, other), plain_is_closed(scene, other), other)

    def test_shares_that_show_less(self):
        lots = [(0, 0, 1), (0, 1, 0)]
        good = [(HEAD, lots, [[[1, 0], [0, 1]]]), (TAKE, lots, [[[1, 0], [0, Ratio(1)]], [[0, 1]]])]
        self.assertIs(is_closed(TWO, FREE, 0, good), True)
        half = Ratio(1, 2)
        for shares in [
                [[[1, 0], [0, 1]], [[1, 0]]], [[[1, 0], [0, 1]], [[half, half]]], [[[0, 1], [1, 0]], [[0, 1]]],
                [[[1, 0], [0, 1]]], [[[1, 0]], [[0, 1]]], [[[1, 0], [0, 1]], [[0, 1], [0, 1]]], [[[1, 0], [0, 1]], [[0, 2]]],
                [[[1, 0], [0, 1]], [[0, 1, 0]]], [[[1, 0], [0, 1]], [[0, True]]], [[(1, 0), (-1, 2)], [[0, 1]]],
                [[[1, 0], [0, 1]], [[1, 1]]], [[[1, 0], [0, 1]], []], ([[1, 0], [0, 1]], [{0: 0, 1: 1}])]:
            self.assertIs(is_closed(TWO, FREE, 0, [good[0], (TAKE, lots, shares)]), False, shares)
        for lots_there in ([], [(0, 0, 2), (0, 1, 0)], [(0, 0, 1)], [[0, 0, 1], (0, 1, 0)], [(0, 1, 0), (0, 0, 1)]):
            self.assertIs(is_closed(TWO, FREE, 0, [good[0], (TAKE, lots_there, good[1][2])]), False)


class TestStandsFor(AskCase):
    def test_small(self):
        coin = ("draw", 0, (0, 1), (1, 1))
        for text, other, good in [
                (SKIP, SKIP, True), (coin, ANYTHING, True), (ANYTHING, coin, False), (HANG, FREE, False), (FREE, ANYTHING, True),
                (SKIP, FORK, True), (FORK, SKIP, False), (ONE, FORK, True), (coin, FORK, False), (("while", [0], SKIP), FREE, True),
                (COIN, coin, False), (coin, coin, True), (("while", [0], coin), ONE, True), (ONE, ("while", [0], coin), True),
                (("while", [0], coin), FREE, True), (FREE, ("while", [0], coin), False), (SKIP, ("if", [0], SKIP, FORK), True)]:
            self.assertIs(self.ask(stands_for, TWO, text, other), good, (text, other))
            both = good and plain_stands_for(TWO, other, text)
            self.assertIs(self.ask(alike, TWO, text, other), both)
            self.assertIs(alike(TWO, other, text), both)

    def test_against_all_picks(self):
        chance = random.Random(704)
        drawn = Drawn(chance)
        seen = {True: 0, False: 0}
        for at in range(70):
            space, text, other = drawn.both(chance.randrange(1, 5), most_eithers=4)
            if at % 2 and few(space, ("either", other, text)):
                other = ("either", other, text)
            good = plain_stands_for(space, text, other)
            seen[good] += 1
            self.assertIs(self.ask(stands_for, space, text, other), good)
            back = plain_stands_for(space, other, text)
            self.assertIs(stands_for(space, other, text), back)
            self.assertIs(self.ask(alike, space, text, other), good and back)
            self.assertIs(stands_for(space, text, text), True)
        self.assertGreater(min(seen.values()), 20)

    def test_texts_in_other_words(self):
        chance = random.Random(705)
        drawn = Drawn(chance)
        seen = 0
        while seen < 25:
            space = drawn.space()
            one, other, third = [drawn.text(space, 2) for _ in range(3)]
            guard = drawn.stores(space)
            words = [
                (("then", ("either", one, other), third), ("either", ("then", one, third), ("then", other, third))),
                (("either", one, other), ("either", other, one)), (("either", one, one), one), (("then", SKIP, one), one),
                (("then", one, SKIP), one), (("if", guard, one, one), one),
                (("then", ("then", one, other), third), ("then", one, ("then", other, third))),
                (("either", ("either", one, other), third), ("either", one, ("either", other, third))),
                (("then", ("if", guard, one, other), third), ("if", guard, ("then", one, third), ("then", other, third))),
                (("while", guard, one), ("if", guard, ("then", one, ("while", guard, one)), SKIP))]
            texts = [text for pair in words for text in pair]
            later = ("then", third, ("either", one, other))
            ahead = ("either", ("then", third, one), ("then", third, other))
            if not all(few(space, text) for text in texts + [later, ahead]):
                continue
            seen += 1
            for left, right in words:
                self.assertIs(alike(space, left, right), True, (left, right))
            self.assertIs(stands_for(space, ahead, later), True)

    def test_not_always_the_other_way_round(self):
        coin, turn = ("draw", 0, (0, 1), (1, 1)), ("set", 0, [1, 0])
        ahead, later = ("either", ("then", coin, SKIP), ("then", coin, turn)), ("then", coin, ("either", SKIP, turn))
        self.assertIs(stands_for(TWO, ahead, later), True)
        self.assertIs(stands_for(TWO, later, ahead), False)

    def test_in_surroundings(self):
        """[107]"""
        chance = random.Random(706)
        drawn = Drawn(chance, sizes=(2,))
        seen = 0
        while seen < 40:
            text, other = drawn.text(TWO, 2), drawn.text(TWO, 2)
            other = ("either", other, text) if chance.random() < 0.7 else other
            surrounding = holed(chance, drawn.text(TWO, 3))
            if not is_surrounding(TWO, surrounding) or not few(TWO, text) or not few(TWO, other):
                continue
            if not stands_for(TWO, text, other):
                continue
            both = [fill(TWO, surrounding, one) for one in (text, other)]
            if not all(few(TWO, one) for one in both) or surrounding == ("hole",):
                continue
            seen += 1
            self.assertIs(stands_for(TWO, *both), True, (surrounding, text, other))

    def test_chains_of_standing(self):
        """[107]: a text stands for whatever a text that it stands for stands for."""
        chance = random.Random(707)
        drawn = Drawn(chance, sizes=(3,))
        space, seen = Space([3]), 0
        while seen < 30:
            texts = [drawn.text(space, 2) for _ in range(2)]
            texts = [texts[0], ("either", *texts), ("either", drawn.text(space, 1), ("either", *texts[::-1]))]
            if all(few(space, text) for text in texts):
                seen += 1
                told = [stands_for(space, texts[at], texts[to]) for at, to in ((0, 1), (1, 2), (0, 2))]
                self.assertEqual(told, [True, True, True])


class TestPapers(AskCase):
    def test_papers_for_and_against(self):
        chance = random.Random(708)
        drawn = Drawn(chance, weights=((1, 1), (1, 2), (999999, 10 ** 6)))
        seen = {"yes": 0, "no": 0}
        for at in range(50):
            space, text, other = drawn.both(chance.randrange(1, 4), most_eithers=3, most_rows=12)
            if at % 2 and few(space, ("either", other, text)):
                other = ("either", other, text)
            told = self.ask(paper_for, space, text, other)
            seen[told[0]] += 1
            scenes, others = scenes_of(space, text), scenes_of(space, other)
            self.assertTrue(plain_is_paper_for(scenes, others, told))
            self.assertIs(is_paper_for(space, text, other, told), True)
            self.assertEqual(told[0] == "yes", stands_for(space, text, other))
            if told[0] == "yes":
                self.assertEqual(len(told), 2)
                for store, (lists, blends) in enumerate(told[1]):
                    self.assertEqual(lists, closed_lists(space, text, store))
                    self.assertEqual(len(blends), len(ends(space, text, store)))
                    for blend in blends:
                        self.assertLessEqual(len(blend), len(space) + 1)
                        self.assertEqual(gcd(*[weight for weight, _ in blend]), 1)
            else:
                _, store, pick, payoff, table = told
                self.assertIs(is_against(space, other, store, scenes[store].lot_by(pick), (payoff, table)), True)
                for before in range(store):
                    self.assertTrue(lies_within(ends(space, text, before), ends(space, other, before)))
        self.assertGreater(min(seen.values()), 15)

    def test_other_lists_blends_and_stores(self):
        space = TWO
        for text in (SKIP, FREE, LOOP, COIN):
            papers = []
            for store, scene in enumerate(scenes_of(space, text)):
                lots = {row: [sure(at, 2) for at in (2, 0, 1)] for row in scene.rows}
                picks = {sure(0, 2): (0, 0), sure(1, 2): (1, 0), sure(2, 2): (1, 1)}
                first = all_lists(scene, lots)[scene.place]
                from_one = [[(7, picks[lot] + (0,) * (len(PlainScene(space, ANYTHING, store).eithers) - 2))] for lot in first]
                papers.append((with_shares(scene, lots), from_one))
            self.assertIs(is_paper_for(space, text, ANYTHING, ("yes", papers)), True)
            self.assertIs(is_paper_for(space, text, ANYTHING, ("yes", tuple(papers))), True)
            for other in ("no", "Yes", "yes ", "", True, ["yes"]):
                self.assertIs(is_paper_for(space, text, ANYTHING, (other, papers)), False)
            self.assertIs(is_paper_for(space, text, ANYTHING, ["yes", papers]), False)
            self.assertIs(is_paper_for(space, text, ANYTHING, ("yes", papers[::-1])), False)
            self.assertIs(is_paper_for(space, text, ANYTHING, ("yes", papers, [])), False)
            self.assertIs(is_paper_for(space, text, ANYTHING, ("yes", papers[:1])), False)
        turn = ("set", 0, [1, 0])
        for store in (0, 1):
            paper = ("no", store, (), [store, 1 - store, 0], [])
            self.assertIs(is_paper_for(space, turn, SKIP, paper), True)
            self.assertIs(is_paper_for(space, turn, SKIP, paper + ([],)), False)
            self.assertIs(is_paper_for(space, turn, SKIP, ("no", 1 - store) + paper[2:]), False)
            self.assertIs(is_paper_for(space, turn, turn, paper), False)
        self.assertEqual(paper_for(space, turn, SKIP)[1], 0)
        self.assertEqual(paper_for(space, FORK, ("if", [0], FORK, COIN))[1:3], (1, (0,)))

    def test_more_picks_than_needed(self):
        blend = [(1, (0, 0)), (1, (0, 1)), (2, (1, 1))]
        text = ("draw", 0, (0, 1), (1, 1))
        other = ("either", ("set", 0, [0, 0]), ("either", ("set", 0, [1, 1]), ("set", 0, [1, 1])))
        paper = paper_for(TWO, text, other)
        self.assertIs(is_paper_for(TWO, text, other, paper), True)
        lists = [closed_lists(TWO, text, store) for store in (0, 1)]
        self.assertIs(is_paper_for(TWO, text, other, ("yes", [(one, [[(2, (0, 0)), (1, (1, 0)), (1, (1, 1))]]) for one in lists])), True)
        self.assertIs(is_paper_for(TWO, text, other, ("yes", [(one, [blend]) for one in lists])), True)
        self.assertIs(is_paper_for(TWO, text, other, ("yes", [(one, [blend[:2]]) for one in lists])), False)

    def test_spoilt(self):
        pairs = [(SKIP, FORK), (FORK, SKIP), (COIN, FREE), (("while", [0], COIN), FREE), (FREE, FREE), (FORK, COIN)]
        for text, other in pairs:
            scenes, others = scenes_of(TWO, text), scenes_of(TWO, other)
            value = paper_for(TWO, text, other)
            for one in spoilt(value, (None,)):
                self.assertIs(is_paper_for(TWO, text, other, one), plain_is_paper_for(scenes, others, one), one)
                self.assertFalse(is_paper_for(TWO, text, other, one) and one[0] != value[0])

    def test_any_values(self):
        scenes = scenes_of(TWO, FREE)
        for value in any_values():
            for store, text in [(0, FREE), (0, SKIP), (1, COIN)]:
                good = isinstance(value, (list, tuple)) and not value and text == SKIP
                self.assertIs(is_closed(TWO, text, store, value), good)
                self.assertIs(is_paper_for(TWO, text, FREE, value), False)
                for other in [("yes", value), ("no", value), ("yes", [value, value]), ("yes", [(value, value)] * 2)]:
                    self.assertIs(is_paper_for(TWO, text, FREE, other), False)
            for other in [
                    (value, [([], []), ([], [])]), ("no", value, (), [0, 0, 1], []), ("no", 1, value, [1, 0, 0], []),
                    ("no", 1, (), value, []), ("no", 1, (), [1, 0, 0], value), ("no", 0, (0,), [0, 0, 1], value)]:
                good = plain_is_paper_for(scenes, scenes_of(TWO, SKIP), other)
                self.assertIs(is_paper_for(TWO, FREE, SKIP, other), good, other)
            for other in [[(HEAD, value, [[[1]]]), (TAKE, [(0, 0, 1)], [[[1]], [[1]]])], [(HEAD, [value], [[[1]]])],
                          [(HEAD, [(0, 0, 1)], value), (TAKE, [(0, 0, 1)], value)], [value, value], [(value, [], [])]]:
                self.assertIs(is_closed(TWO, FREE, 0, other), plain_is_closed(scenes[0], other))


class TestBounds(AskCase):
    def test_rows(self):
        text, many = with_rows(64), with_rows(65)
        self.assertEqual(len(closed_lists(EIGHT, text, 3)), 64)
        self.assertIs(is_closed(EIGHT, text, 3, closed_lists(EIGHT, text, 3)), True)
        self.assertIs(stands_for(EIGHT, text, text), True)
        self.assertIs(alike(EIGHT, text, ("while", list(range(8)), SKIP)), True)
        self.assertEqual(paper_for(EIGHT, text, SKIP)[:2], ("no", 0))
        self.assertIs(is_paper_for(EIGHT, text, SKIP, paper_for(EIGHT, text, SKIP)), True)
        for count in (65, 72, 104):
            many = with_rows(count)
            self.assert_too_many(count, closed_lists, EIGHT, many, 3)
            for value in (None, []):
                self.assert_too_many(count, is_closed, EIGHT, many, 3, value)
            for function, more in [(stands_for, ()), (alike, ()), (paper_for, ()), (is_paper_for, (None,))]:
                self.assert_too_many(count, function, EIGHT, many, SKIP, *more)
                self.assert_too_many(count, function, EIGHT, SKIP, many, *more)
                # Those of the text come ahead of those of the other one, also where the answer is plain.
                self.assert_too_many(count, function, EIGHT, many, with_rows(73), *more)
                self.assert_too_many(count, function, EIGHT, many, many, *more)

    def test_the_greatest_number_over_all_stores(self):
        many = ("if", [5], with_rows(72), ("if", [2], with_rows(40), SKIP))
        self.assertEqual(closed_lists(EIGHT, many, 0), [])
        self.assert_too_many(72, closed_lists, EIGHT, many, 5)
        for function, more in [(stands_for, ()), (alike, ()), (paper_for, ()), (is_paper_for, (None,))]:
            self.assert_too_many(72, function, EIGHT, many, SKIP, *more)
            self.assert_too_many(72, function, EIGHT, SKIP, many, *more)

    def test_eithers(self):
        for maker in (counted_eithers, nested_eithers):
            four, five, six, seven = [maker(count) for count in (4, 5, 6, 7)]
            self.assertEqual(closed_lists(TWO, four, 1)[3][1], [(0, 1, 0)])
            self.assert_too_many(5, closed_lists, TWO, five, 1)
            self.assertIs(is_closed(TWO, five, 1, None), False)
            self.assertIs(is_closed(TWO, seven, 1, self.lists_of_one(seven, 1)), True)
            self.assertEqual(paper_for(TWO, four, four)[0], "yes")
            self.assert_too_many(5, paper_for, TWO, five, SKIP)
            self.assert_too_many(6, paper_for, TWO, SKIP, six)
            self.assert_too_many(5, paper_for, TWO, five, seven)
            self.assert_too_many(7, paper_for, TWO, seven, five)
            for function in (stands_for, alike):
                self.assertIs(function(TWO, six, six), True)
                self.assert_too_many(7, function, TWO, seven, SKIP)
                self.assert_too_many(7, function, TWO, SKIP, seven)
                self.assert_too_many(7, function, TWO, seven, seven)
                self.assert_too_many(8, function, TWO, nested_eithers(8), seven)
            # The judge of papers counts rows alone.
            papers = [(self.lists_of_one(seven, store), [[(1, (0,) * 7)]]) for store in (0, 1)]
            self.assertIs(is_paper_for(TWO, seven, seven, ("yes", papers)), True)
        # Either rows of one store alone, the greatest number over all stores.
        lone = ("if", [1], nested_eithers(7), nested_eithers(2))
        self.assert_too_many(7, stands_for, TWO, lone, SKIP)
        self.assert_too_many(7, paper_for, TWO, SKIP, lone)
        self.assertEqual(len(closed_lists(TWO, lone, 0)), 2)
        # Many rows come ahead of eithers, text by text.
        both, few = nested_eithers(7, with_rows(72)), nested_eithers(7)
        for function in (stands_for, alike, paper_for):
            self.assert_too_many(79, function, EIGHT, both, few)
            self.assert_too_many(7, function, EIGHT, few, both)
        self.assert_too_many(79, closed_lists, EIGHT, both, 0)

    def lists_of_one(self, text, store):
        """The closed lists of a text that brings only the lot in which the store is sure."""
        scene = PlainScene(TWO, text, store)
        return [(row, [sure(store, 2)], [[[1]] for _ in scene.moves[row]]) for row in scene.rows]

    def test_which_error_comes_first(self):
        many = with_rows(72)
        for function, more in [(closed_lists, ()), (is_closed, (None,))]:
            self.assert_first_errors(function, *more)
        for function, more in [(stands_for, ()), (alike, ()), (paper_for, ()), (is_paper_for, (None,))]:
            for space in WRONG_SPACES:
                self.assert_raises_with(InvalidSpace, space, function, space, None, None, *more)
            for text in WRONG_TEXTS:
                self.assert_raises_with(InvalidText, text, function, TWO, text, None, *more)
                self.assert_raises_with(InvalidOther, text, function, TWO, FORK, text, *more)
            for other in any_values():
                if other != ("draw", 0, (0, 1), (1, 1)):
                    self.assert_raises_with(InvalidOther, other, function, EIGHT, many, other, *more)

    def test_large_shares(self):
        text = ("draw", 0, (0, 1), (999999, 10 ** 6))
        self.assertIs(is_paper_for(TWO, text, ANYTHING, paper_for(TWO, text, ANYTHING)), True)
        self.assertIs(stands_for(TWO, text, ("draw", 0, (0, 1), (999998, 999999))), False)
        self.assertEqual(sum(Fraction(one, 1999999) for one in ends(TWO, text, 0)[0]), 1)
        self.assertTrue(is_end(PlainScene(TWO, SKIP, 0).place))


if __name__ == "__main__":
    unittest.main()
