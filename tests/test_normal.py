"""Tests of endlots.normal: [166] to [168], with the head of their stage."""

import random
import unittest

from asking import (
    COIN, EIGHT, FORK, FREE, TWO, WRONG_SPACES, WRONG_TEXTS, AskCase, counted_eithers, nested_eithers, with_rows, with_tuples,
)
from around import plain_ends
from endlots.errors import InvalidSpace, InvalidText
from endlots.forward import ends
from endlots.normal import forward_steps, needless, normal, struck
from endlots.spaces import Space
from endlots.standing import alike
from endlots.texts import depth, is_text, part_at, parts, put_at, size
from plain import SKIP, Drawn, Plain, PlainScene

ONE, ZERO = ("set", 0, [1, 1]), ("set", 0, [0, 0])
RULES = ["exchange", "same", "skip", "group", "spread", "set", "unroll"]


def without(space, text, path, side):
    return put_at(space, text, path, part_at(text, path + (1 - side,)))


def plain_needless(space, text):
    """By the words of [167]."""
    found = []
    for path, part in sorted(Plain(space, with_tuples(text)).parts.items()):
        if part[0] == "either":
            for side in (0, 1):
                if plain_ends(space, without(space, text, path, side)) == plain_ends(space, text):
                    found.append((path, side))
    return found


class NormalCase(AskCase):
    def drawn_texts(self, seed, many, most_eithers=4, deep=4, **bounds):
        chance = random.Random(seed)
        drawn = Drawn(chance)
        while many > 0:
            space, text, _, _ = drawn.scene(chance.randrange(1, deep + 1), most_eithers=most_eithers, least_rows=0, **bounds)
            if max(len(PlainScene(space, text, store).eithers) for store in range(len(space))) <= most_eithers:
                many -= 1
                yield (space, text)


class TestNormal(NormalCase):
    def test_examples(self):
        text = ("either", SKIP, ("either", SKIP, ZERO))
        self.assertEqual(normal(TWO, text), [[(1, 0, 0)], [(0, 1, 0), (1, 0, 0)]])
        self.assertEqual(needless(TWO, text), [((), 0), ((1,), 0)])
        self.assertEqual(struck(TWO, text), ("either", SKIP, ("set", 0, (0, 0))))
        self.assertEqual(forward_steps(TWO, ("then", ONE, ("set", 0, [1, 0]))), [((), "set", ("set", 0, (0, 0)))])

    def test_by_name(self):
        self.assertEqual(normal(space=TWO, text=SKIP), [[(1, 0, 0)], [(0, 1, 0)]])
        self.assertEqual([needless(space=TWO, text=SKIP), struck(space=TWO, text=SKIP), forward_steps(space=TWO, text=SKIP)], [[], SKIP, []])

    def test_ends_from_each_store(self):
        for space, text in self.drawn_texts(921, 60):
            told = self.ask(normal, space, text)
            self.assertEqual(told, [ends(space, text, store) for store in range(len(space))])
            self.assertEqual(told, plain_ends(space, text))

    def test_alike_texts_have_equal_tables(self):
        drawn = Drawn(random.Random(922), sizes=(2,))
        seen = {True: 0, False: 0}
        for _ in range(150):
            space, text, other = drawn.both(2)
            good = alike(space, text, other)
            seen[good] += 1
            self.assertEqual(normal(space, text) == normal(space, other), good)
        self.assertGreater(min(seen.values()), 10)


class TestNeedless(NormalCase):
    def test_against_the_words(self):
        many = 0
        for space, text in self.drawn_texts(931, 110, most_rows=30, least_eithers=1):
            told = self.ask(needless, space, text)
            self.assertEqual(told, plain_needless(space, text))
            many += len(told)
            left = self.ask(struck, space, text)
            self.assertEqual(left, self.struck_by_hand(space, text))
            self.assertTrue(alike(space, text, left))
            self.assertEqual(needless(space, left), [])
            self.assertEqual(left, with_tuples(left))
        self.assertGreater(many, 30)

    @staticmethod
    def struck_by_hand(space, text):
        left = with_tuples(text)
        while True:
            sides = plain_needless(space, left)
            if not sides:
                return left
            left = without(space, left, *sides[0])

    def test_small(self):
        for text, sides, left in [
                (FORK, [((), 0), ((), 1)], None), (("either", COIN, COIN), [((), 0), ((), 1)], COIN),
                (("either", ("either", ONE, ZERO), COIN), [((), 1)], ("either", ("set", 0, (1, 1)), ("set", 0, (0, 0)))),
                (("either", COIN, ("either", ONE, ZERO)), [((), 0)], ("either", ("set", 0, (1, 1)), ("set", 0, (0, 0)))),
                (("if", [], FORK, SKIP), [((1 - 1,), 0), ((0,), 1)], ("if", (), ("set", 0, (1, 1)), SKIP)), (SKIP, [], SKIP),
                (("while", [0], FORK), [], ("while", (0,), ("either", SKIP, ("set", 0, (1, 1)))))]:
            if text is not FORK:
                self.assertEqual([needless(TWO, text), struck(TWO, text)], [sides, left])
        self.assertEqual([needless(TWO, FORK), struck(TWO, FORK)], [[], ("either", SKIP, ("set", 0, (1, 1)))])

    def test_both_of_one_either_and_of_equal_ones(self):
        # Either of two equal eithers alone is needless, both together are not.
        text = ("either", ("either", SKIP, ONE), ("either", ONE, SKIP))
        self.assertEqual(needless(TWO, text), [((), 0), ((), 1), ((0,), 0), ((0,), 1), ((1,), 0), ((1,), 1)])
        self.assertEqual(struck(TWO, text), ("either", ("set", 0, (1, 1)), SKIP))

    def test_a_side_that_rows_of_some_stores_need(self):
        space = Space([3])
        text = ("either", ("set", 0, [0, 1, 1]), ("set", 0, [0, 1, 2]))
        self.assertEqual(needless(space, text), [])
        self.assertEqual(needless(space, ("then", ("set", 0, [0, 1, 1]), text)), [((1,), 0), ((1,), 1)])


class TestSteps(NormalCase):
    def test_each_rule_at_the_whole(self):
        loop = ("while", (0,), COIN)
        for text, rule, new in [
                (("either", COIN, SKIP), "exchange", ("either", SKIP, COIN)), (("either", SKIP, SKIP), "exchange", ("either", SKIP, SKIP)),
                (("either", ("set", 0, [1, 1]), ("set", 0, (1, 1))), "same", ("set", 0, (1, 1))), (("if", (0,), COIN, COIN), "same", COIN),
                (("then", SKIP, COIN), "skip", COIN), (("then", COIN, SKIP), "skip", COIN), (("then", SKIP, SKIP), "skip", SKIP),
                (("then", ("then", COIN, SKIP), loop), "group", ("then", COIN, ("then", SKIP, loop))),
                (("either", ("either", COIN, SKIP), loop), "group", ("either", COIN, ("either", SKIP, loop))),
                (("then", ("either", COIN, SKIP), loop), "spread", ("either", ("then", COIN, loop), ("then", SKIP, loop))),
                (("then", ("if", (1,), COIN, SKIP), loop), "spread", ("if", (1,), ("then", COIN, loop), ("then", SKIP, loop))),
                (("then", ("set", 0, [1, 0]), ("set", 0, [1, 0])), "set", ("set", 0, (0, 1))),
                (loop, "unroll", ("if", (0,), ("then", COIN, loop), SKIP)), (("while", (), SKIP), "unroll", ("if", (), ("then", SKIP, ("while", (), SKIP)), SKIP))]:
            self.assertIn(((), rule, new), self.ask(forward_steps, TWO, text), text)

    def test_what_is_no_step(self):
        for text, rules in [
                (SKIP, []), (COIN, []), (("set", 0, [1, 1]), []), (("then", COIN, COIN), []), (("if", [0], COIN, SKIP), []),
                (("either", COIN, SKIP), ["exchange"]), (("then", COIN, ("then", COIN, COIN)), []), (("then", COIN, ("either", COIN, SKIP)), ["exchange"]),
                (("either", COIN, ("either", COIN, SKIP)), ["exchange", "exchange"]), (("then", ("while", [0], COIN), COIN), ["unroll"]),
                (("then", ("then", SKIP, COIN), COIN), ["group", "skip"]), (("then", ("either", SKIP, SKIP), SKIP), ["skip", "spread", "exchange", "same"])]:
            self.assertEqual([rule for _, rule, _ in forward_steps(TWO, text)], rules, text)
        space = Space([2, 2])
        self.assertEqual(forward_steps(space, ("then", ("set", 0, [1] * 4), ("set", 1, [1] * 4))), [])
        # The values of the second set at the stores to which the first one leads.
        text = ("then", ("set", 1, [0, 1, 1, 0]), ("set", 1, [1, 0, 1, 0]))
        self.assertEqual(forward_steps(space, text), [((), "set", ("set", 1, (1, 0, 0, 1)))])

    def test_order(self):
        text = ("then", ("either", SKIP, SKIP), ("while", [0], ("then", SKIP, COIN)))
        told = forward_steps(TWO, text)
        self.assertEqual([(path, rule) for path, rule, _ in told], [
            ((), "spread"), ((0,), "exchange"), ((0,), "same"), ((1,), "unroll"), ((1, 0), "skip")])

    def test_drawn(self):
        """Every step is alike, is a text, and changes the part with its path alone; no path has a rule twice."""
        seen = {rule: 0 for rule in RULES}
        for space, text in self.drawn_texts(941, 260, most_eithers=3, deep=4):
            told = self.ask(forward_steps, space, text)
            keys = [(path, RULES.index(rule)) for path, rule, _ in told]
            self.assertEqual(keys, sorted(set(keys)))
            for path, rule, new in told:
                seen[rule] += 1
                self.assertEqual(new, with_tuples(new))
                self.assertTrue(is_text(space, new))
                self.assertEqual(put_at(space, text, path, part_at(new, path)), new)
                small = [max(len(PlainScene(space, one, store).rows) for store in range(len(space))) for one in (text, new)]
                if max(small) <= 64 and max(len(PlainScene(space, new, store).eithers) for store in range(len(space))) <= 6:
                    self.assertTrue(alike(space, text, new), (text, path, rule))
        self.assertGreater(min(seen.values()), 2)

    def test_too_great_ones_are_left_out(self):
        def chain(many):
            text = COIN
            for _ in range(many - 1):
                text = ("then", COIN, text)
            return text
        # A while with 10 parts within it unrolls to 23 parts, with 11 to 25.
        for many, good in [(10, True), (11, False)]:
            text = ("while", (0,), chain(many))
            self.assertEqual([rule for path, rule, _ in forward_steps(TWO, text) if path == ()], ["unroll"] if good else [])
        for many, good in [(11, True), (12, False)]:
            text = ("then", ("either", SKIP, SKIP), chain(many))
            self.assertEqual(size(text), many + 3)
            rules = [rule for path, rule, _ in forward_steps(TWO, text) if path == ()]
            self.assertEqual(rules, ["spread"] if 2 * many + 3 <= 24 else [])
        # Steps do not make texts deeper; the greatest depth may be unrolled.
        deep = ("while", (0,), ("while", (0,), ("while", (0,), ("while", (0,), SKIP))))
        self.assertEqual([depth(new) for _, _, new in forward_steps(TWO, deep)], [4] * 4)

    def test_any_number_of_rows(self):
        self.assertEqual(len(forward_steps(EIGHT, with_rows(104))) > 0, True)
        self.assertEqual(len(forward_steps(TWO, counted_eithers(7))) > 14, True)

    def test_paths_of_all_parts(self):
        for space, text in self.drawn_texts(942, 30):
            paths = [path for path, _ in parts(text)]
            eithers = [path for path, part in parts(text) if part[0] == "either"]
            told = forward_steps(space, text)
            self.assertTrue(all(path in paths for path, _, _ in told))
            self.assertEqual([path for path, rule, _ in told if rule == "exchange"], eithers)


class TestBounds(NormalCase):
    def test_which_error_comes_first(self):
        for function in (normal, needless, struck, forward_steps):
            for space in WRONG_SPACES:
                self.assert_raises_with(InvalidSpace, space, function, space, None)
            for text in WRONG_TEXTS:
                self.assert_raises_with(InvalidText, text, function, TWO, text)

    def test_rows_and_eithers(self):
        self.assertEqual(len(normal(EIGHT, with_rows(64))), 8)
        self.assertEqual([needless(EIGHT, with_rows(64)), struck(EIGHT, with_rows(64))], [[], with_tuples(with_rows(64))])
        self.assertEqual(needless(TWO, counted_eithers(6)), [((0,), 0), ((0,), 1)] + [
            ((1,) * deep + (0,), side) for deep in range(1, 6) for side in (0, 1)])
        self.assertEqual(struck(TWO, nested_eithers(6)), SKIP)
        for function in (normal, needless, struck):
            for count in (65, 72, 104):
                self.assert_too_many(count, function, EIGHT, with_rows(count))
            for text, count in [(counted_eithers(7), 7), (nested_eithers(11), 11), (("if", [1], nested_eithers(7), SKIP), 7)]:
                self.assert_too_many(count, function, TWO, text)

    def test_more_eithers_than_are_met_from_one_store(self):
        text = ("if", [0], nested_eithers(6, ONE), nested_eithers(4))
        told = needless(TWO, text)
        self.assertEqual(len(told), 2 * 10 - 6)
        self.assertEqual(struck(TWO, text), ("if", (0,), ("either", ("set", 0, (1, 1)), SKIP), SKIP))
        unmet = ("if", [], nested_eithers(9), FREE)
        self.assertEqual(len(needless(TWO, unmet)), 18)


if __name__ == "__main__":
    unittest.main()
