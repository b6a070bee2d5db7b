"""Tests of endlots.bench: [171] to [178]."""

import random
import unittest
from itertools import permutations

from asking import (
    COIN, EIGHT, FREE, TWO, WRONG_SPACES, WRONG_STORES, WRONG_TEXTS, AskCase, counted_eithers, empty, frozen,
    nested_eithers, with_rows,
)
from endlots.backward import best
from endlots.bench import Bench, read_bench
from endlots.errors import (
    EndError, InvalidLine, InvalidName, InvalidOther, InvalidPart, InvalidPath, InvalidPayoff, InvalidSpace, InvalidStore,
    InvalidText, NoThing, NothingToRedo, NothingToUndo, TooMany,
)
from endlots.forward import ends
from endlots.nearly import lead
from endlots.spaces import Space
from endlots.standing import paper_for, stands_for
from endlots.texts import part_at, parts
from endlots.times import always_ends
from odd import any_values
from plain import SKIP, Drawn

ONE, ZERO = ("set", 0, (1, 1)), ("set", 0, (0, 0))
BOTH = ("either", ZERO, ONE)
HANG = ("while", (0, 1), SKIP)
NO_NAMES = ["", "1", "1a", "A", "aB", "a b", "a_", "a" * 13, " a", "a ", "a:", "\u00e9", "a\u0663", "a\n", "a-1", None, True, 1, ["a"], ("a",)]
NAMES = ["a", "z9", "abcdefghijkl", "b0123456789z", "az"]


def bench_of(space=TWO, **texts):
    bench = Bench(space)
    for name, text in texts.items():
        bench.put(name, text)
    return bench


def state(bench):
    return (bench.names(), [bench.take(name) for name in bench.names()], bench.facts())


class BenchCase(AskCase):
    def assert_no_thing(self, name, call, *arguments):
        with self.assertRaises(NoThing) as caught:
            call(*arguments)
        self.assertIs(caught.exception.name, name)

    def assert_no_deed(self, bench, error, call, *arguments, **more):
        """An error is raised, and all is as it was."""
        before = state(bench)
        with self.assertRaises(error) as caught:
            call(*arguments, **more)
        self.assertEqual(state(bench), before)
        return caught.exception


class TestBenches(BenchCase):
    def test_examples(self):
        bench = Bench(Space([2]))
        bench.put("coin", ("draw", 0, (0, 1), (1, 1)))
        bench.put("free", ("either", ("set", 0, [0, 0]), ("set", 0, [1, 1])))
        self.assertEqual(
            [bench.claim("coin", "free"), bench.claim("free", "coin"), bench.facts(), bench.chain("coin", "free")],
            [True, False, [("coin", "free")], ["coin", "free"]])
        self.assertEqual(
            [bench.refine("free", (), ("set", 0, [0, 0])), bench.facts(), bench.undo(), bench.facts()], [True, [], None, [("coin", "free")]])
        self.assertEqual([bench.ends("free", 1), bench.lines()[0]], [[(0, 1, 0), (1, 0, 0)], "coin: draw 0 from 0,1 by 1,1"])
        self.assertIs(read_bench(bench.space, bench.lines()) == bench, True)

    def test_empty_ones(self):
        space = Space([2, 3])
        bench = Bench(space)
        self.assertIs(bench.space, space)
        self.assertEqual([len(bench), bench.names(), bench.facts(), bench.lines()], [0, [], [], []])
        for wrong in WRONG_SPACES:
            self.assert_raises_with(InvalidSpace, wrong, Bench, wrong)
        self.assertRaises(NothingToUndo, bench.undo)
        self.assertRaises(NothingToRedo, bench.redo)
        self.assertIs(bench == Bench(space=Space([2, 3])), True)

    def test_names(self):
        bench = Bench(TWO)
        for at, name in enumerate(NAMES):
            self.assertIs(bench.put(name, SKIP), None)
            self.assertEqual([len(bench), name in bench], [at + 1, True])
        self.assertEqual(bench.names(), sorted(NAMES))
        for name in NO_NAMES + any_values():
            if name == "a":
                continue
            self.assertIs(name in bench, False)
            self.assert_raises_with(InvalidName, name, bench.put, name, None)
            for call, more in [
                    (bench.take, ()), (bench.drop, ()), (bench.rename, (None,)), (bench.edit, (None, None)), (bench.refine, (None, None)),
                    (bench.claim, (None,)), (bench.chain, (None,)), (bench.ends, (None,)), (bench.best, (None, None)),
                    (bench.always_ends, (None,)), (bench.lead, (None,))]:
                self.assert_no_thing(name, call, name, *more)
            for call in (bench.claim, bench.chain, bench.lead):
                self.assert_no_thing(name, call, "a", name)
        self.assert_no_thing("b", bench.claim, "b", "c")
        self.assertEqual([len(bench), bench.names()], [5, sorted(NAMES)])

    def test_eight_names(self):
        bench = Bench(TWO)
        for at in range(8):
            bench.put(f"n{at}", SKIP)
        error = self.assert_no_deed(bench, TooMany, bench.put, "n8", SKIP)
        self.assertEqual(error.count, 9)
        self.assert_no_deed(bench, InvalidText, bench.put, "n8", None)
        self.assert_no_deed(bench, InvalidName, bench.put, "N", None)
        bench.put("n3", COIN)
        bench.rename("n0", "m")
        bench.drop("n1")
        bench.put("n8", SKIP)
        self.assertEqual(len(bench), 8)

    def test_texts_are_tuples_and_stay(self):
        bench = Bench(TWO)
        values = [0, 1]
        bench.put("a", ("set", 0, values))
        values.append(3)
        self.assertEqual(bench.take("a"), ("set", 0, (0, 1)))
        bench.edit("a", (), ("while", [0], ("set", 0, [1, 1])))
        self.assertEqual(bench.take(name="a"), ("while", (0,), ONE))
        for told in (bench.names(), bench.facts(), bench.lines()):
            empty(told)
        self.assertEqual([bench.names(), bench.facts(), bench.lines()], [["a"], [], ["a: (while 0 do set 0 to 1,1)"]])

    def test_by_name(self):
        bench = Bench(space=TWO)
        bench.put(name="a", text=FREE)
        bench.rename(name="a", new="b")
        bench.edit(name="b", path=(0,), part=BOTH)
        self.assertIs(bench.refine(name="b", path=(0, 0), part=ZERO), True)
        bench.put(name="c", text=HANG)
        self.assertIs(bench.claim(name="b", other="c", paper=None), False)
        self.assertEqual(bench.chain(name="b", other="b"), ["b"])
        self.assertEqual(bench.ends(name="b", store=1), [(0, 1, 0)])
        self.assertEqual(bench.best(name="b", store=1, payoff=[0, 3, 0]), 3)
        self.assertIs(bench.always_ends(name="b", store=0), False)
        self.assertEqual(bench.lead(name="b", other="c"), 1)
        bench.drop(name="c")
        self.assertEqual(read_bench(space=TWO, lines=bench.lines()).names(), ["b"])
        # A paper is passed by its name alone.
        self.assertRaises(TypeError, bench.claim, "b", "b", None)

    def test_wrong_texts(self):
        bench = bench_of(a=FREE)
        for text in WRONG_TEXTS:
            error = self.assert_no_deed(bench, InvalidText, bench.put, "b", text)
            self.assertIs(error.given, text)
            for call in (bench.edit, bench.refine):
                self.assertIs(self.assert_no_deed(bench, InvalidPart, call, "a", (), text).given, text)
        for path in [None, [], [0], (1,), (0, 2), (True,), 0, "", (0, 0, 0)]:
            for call in (bench.edit, bench.refine):
                self.assertIs(self.assert_no_deed(bench, InvalidPath, call, "a", path, None).given, path)
        for new in NO_NAMES + ["a"]:
            self.assertIs(self.assert_no_deed(bench, InvalidName, bench.rename, "a", new).given, new)
        bench.put("b", counted_eithers(7))
        self.assertIs(self.assert_no_deed(bench, InvalidName, bench.rename, "a", "b").given, "b")
        self.assertEqual(self.assert_no_deed(bench, TooMany, bench.refine, "b", (), SKIP).count, 7)

    def test_too_great_parts(self):
        bench = bench_of(a=nested_eithers(8), b=("while", (0,), ("while", (0,), ("while", (0,), ("while", (0,), SKIP)))))
        for call in (bench.edit, bench.refine):
            self.assertEqual(self.assert_no_deed(bench, TooMany, call, "a", (1,), nested_eithers(4)).count, 25)
            self.assertEqual(self.assert_no_deed(bench, TooMany, call, "b", (0, 0, 0, 0), ("while", (0,), SKIP)).count, 5)


class TestFacts(BenchCase):
    def test_claims(self):
        bench = bench_of(one=ONE, both=BOTH, hang=HANG)
        for name, other in permutations(["one", "both", "hang"], 2):
            good = stands_for(TWO, bench.take(name), bench.take(other))
            self.assertIs(bench.claim(name, other), good)
            self.assertEqual((name, other) in bench.facts(), good)
        self.assertEqual(bench.facts(), [("one", "both")])
        self.assertIs(self.assert_no_deed(bench, InvalidOther, bench.claim, "one", "one").given, "one")

    def test_papers(self):
        bench = bench_of(one=ONE, both=BOTH)
        yes, no = paper_for(TWO, ONE, BOTH), paper_for(TWO, BOTH, ONE)
        for paper in any_values():
            if paper is not None:
                self.assertIs(bench.claim("one", "both", paper=paper), False)
        self.assertIs(bench.claim("one", "both", paper=no), False)
        self.assertIs(bench.claim("both", "one", paper=no), False)
        self.assertIs(bench.claim("both", "one", paper=yes), False)
        self.assertEqual(bench.facts(), [])
        self.assertIs(bench.claim("one", "both", paper=yes), True)
        self.assertEqual(bench.facts(), [("one", "both")])
        # What is kept stays, also if it is claimed again with a wrong paper.
        self.assertIs(bench.claim("one", "both", paper=no), False)
        self.assertEqual(bench.facts(), [("one", "both")])
        self.assertIs(bench.claim("one", "both", paper=None), True)
        self.assertIs(self.assert_no_deed(bench, InvalidOther, bench.claim, "one", "one", paper=3).given, "one")

    def test_bounds_of_claims(self):
        bench = bench_of(EIGHT, a=nested_eithers(7), b=SKIP, c=with_rows(65), d=nested_eithers(11))
        for name, other, count in [("a", "b", 7), ("b", "a", 7), ("d", "a", 11), ("a", "c", 7), ("c", "a", 65), ("b", "c", 65)]:
            self.assertEqual(self.assert_no_deed(bench, TooMany, bench.claim, name, other).count, count)
            self.assertEqual(self.assert_no_deed(bench, TooMany, bench.lead, name, other).count, count)
        # A judge answers for any number of either rows.
        self.assertIs(bench.claim("a", "b", paper=3), False)
        self.assertEqual(self.assert_no_deed(bench, TooMany, bench.claim, "b", "c", paper=3).count, 65)
        small = bench_of(a=nested_eithers(7), b=SKIP)
        paper = ("yes", [([], [[(1, ())]]) for _ in range(2)])
        self.assertIs(small.claim("a", "b", paper=paper), False)
        lists = [([], [[(1, (0,) * 7)]])] * 2
        self.assertIs(small.claim("b", "a", paper=("yes", lists)), True)
        self.assertEqual(small.facts(), [("b", "a")])
        # It is asked also if the fact is kept already.
        self.assertEqual(self.assert_no_deed(small, TooMany, small.claim, "b", "a").count, 7)
        self.assertRaises(TooMany, read_bench, TWO, small.lines())

    def test_chains(self):
        bench = bench_of(**{name: SKIP for name in "abcdefgh"})
        for name, other in [("a", "b"), ("b", "e"), ("a", "c"), ("c", "e"), ("e", "f"), ("a", "d"), ("d", "g"), ("g", "f"), ("f", "a")]:
            self.assertIs(bench.claim(name, other), True)
        for name, other, chain in [
                ("a", "a", "a"), ("a", "b", "ab"), ("a", "e", "abe"), ("a", "f", "abef"), ("f", "e", "fabe"), ("a", "h", None),
                ("h", "a", None), ("h", "h", "h"), ("b", "g", "befadg"), ("d", "f", "dgf")]:
            self.assertEqual(bench.chain(name, other), None if chain is None else list(chain))

    def test_chains_against_all_lists(self):
        chance = random.Random(951)
        for _ in range(30):
            bench = bench_of(**{name: SKIP for name in "abcde"})
            for _ in range(chance.randrange(9)):
                bench.claim(*chance.sample("abcde", 2))
            facts = bench.facts()
            for name in "abcde":
                for other in "abcde":
                    found = [
                        list(one) for many in range(1, 6) for one in permutations("abcde", many)
                        if one[0] == name and one[-1] == other and all(pair in facts for pair in zip(one, one[1:]))]
                    least = min(found, key=lambda one: (len(one), one)) if found else None
                    self.assertEqual(bench.chain(name, other), least)


class TestKeptFacts(BenchCase):
    def three(self):
        """Three texts with facts, each named in two of them."""
        bench = bench_of(one=ONE, two=("set", 0, [1, 1]), wide=BOTH)
        for name, other in [("one", "two"), ("two", "one"), ("one", "wide"), ("two", "wide")]:
            self.assertIs(bench.claim(name, other), True)
        return bench

    def test_put_and_edit(self):
        every = [("one", "two"), ("one", "wide"), ("two", "one"), ("two", "wide")]
        for text, facts in [(("set", 0, [1, 1]), every), (ZERO, [("two", "wide")])]:
            bench = self.three()
            bench.put("one", text)
            self.assertEqual(bench.facts(), facts)
            bench = self.three()
            self.assertIs(bench.edit("one", (), text), None)
            self.assertEqual(bench.facts(), facts)
        bench = self.three()
        bench.edit("wide", (0,), COIN)
        self.assertEqual(bench.facts(), [("one", "two"), ("two", "one")])
        bench = self.three()
        bench.put("four", SKIP)
        self.assertEqual(bench.facts(), every)

    def test_drop_and_rename(self):
        bench = self.three()
        bench.drop("one")
        self.assertEqual([bench.facts(), bench.names()], [[("two", "wide")], ["two", "wide"]])
        bench = self.three()
        bench.rename("one", "zero")
        self.assertEqual(bench.facts(), [("two", "wide"), ("two", "zero"), ("zero", "two"), ("zero", "wide")])
        self.assertEqual([bench.take("zero"), bench.names()], [ONE, ["two", "wide", "zero"]])
        self.assert_no_thing("one", bench.take, "one")
        bench.rename("wide", "one")
        self.assertEqual(bench.facts(), [("two", "one"), ("two", "zero"), ("zero", "one"), ("zero", "two")])

    def test_refine(self):
        # A part that is as wide keeps all facts, a narrower one those of its name alone.
        bench = bench_of(wide=BOTH, all=("either", BOTH, HANG), one=ONE)
        for name, other in [("wide", "all"), ("one", "wide"), ("one", "all")]:
            self.assertIs(bench.claim(name, other), True)
        facts = bench.facts()
        self.assertIs(bench.refine("wide", (), ("either", ONE, ZERO)), True)
        self.assertEqual([bench.facts(), bench.take("wide")], [facts, ("either", ONE, ZERO)])
        self.assertIs(bench.refine("wide", (), ("either", ONE, COIN)), True)
        self.assertEqual(bench.facts(), [("one", "all"), ("wide", "all")])
        before = state(bench)
        self.assertIs(bench.refine("wide", (), HANG), False)
        self.assertIs(bench.refine("wide", (1,), ZERO), False)
        self.assertEqual(state(bench), before)
        self.assertIs(bench.refine("all", (1,), HANG), True)
        self.assertEqual(state(bench), before)
        self.assertIs(bench.refine("all", (0, 0), ZERO), True)
        self.assertIs(bench.refine("all", (0,), ONE), True)
        self.assertEqual(bench.facts(), [])

    def test_parts_count_for_refine(self):
        # The part is less wide though the whole stays the same.
        bench = bench_of(a=("then", BOTH, ZERO), b=ZERO)
        self.assertIs(bench.claim("b", "a"), True)
        self.assertIs(bench.refine("a", (0,), ONE), True)
        self.assertEqual([bench.facts(), bench.take("a")], [[], ("then", ONE, ZERO)])
        # A part that is wider is refused though the whole would stay the same.
        self.assertIs(bench.refine("a", (0,), BOTH), False)

    def test_all_kept_facts_hold(self):
        """[174], whatever is done."""
        chance = random.Random(961)
        drawn = Drawn(chance, sizes=(2,))
        kept = 0
        for _ in range(30):
            bench = Bench(TWO)
            for _ in range(60):
                self.deed(chance, drawn, bench)
                for name, other in bench.facts():
                    kept += 1
                    self.assertTrue(stands_for(TWO, bench.take(name), bench.take(other)))
                told = read_bench(TWO, bench.lines())
                self.assertTrue(told == bench and not told != bench)
        self.assertGreater(kept, 300)

    @staticmethod
    def deed(chance, drawn, bench):
        """Some deed, with small texts."""
        names = bench.names()
        text = drawn.text(TWO, chance.choice([0, 1, 1, 2]), "set draw then if either either while")
        text = chance.choice([text, ONE, ZERO, BOTH, ("either", BOTH, HANG)])
        name, other, new = [chance.choice(names or ["a"]), chance.choice(names or ["a"]), chance.choice("abcdefghi")]
        kind = chance.choice("put put drop rename edit refine refine claim claim claim claim undo redo".split())
        try:
            if kind == "put":
                bench.put(new, text)
            elif kind == "rename":
                bench.rename(name, new)
            elif kind in ("edit", "refine"):
                path = chance.choice(parts(bench.take(name)))[0]
                getattr(bench, kind)(name, path, chance.choice([text, part_at(bench.take(name), path + (0,))]))
            elif kind == "claim":
                bench.claim(name, other)
            else:
                getattr(bench, kind)(*[name] if kind == "drop" else [])
        except EndError:
            pass


class TestBackAndAgain(BenchCase):
    def test_each_deed(self):
        bench = bench_of(a=BOTH, b=ONE)
        states = [state(bench)]
        for call, arguments in [
                (bench.put, ("c", SKIP)), (bench.claim, ("b", "a")), (bench.edit, ("c", (), COIN)), (bench.rename, ("a", "z")),
                (bench.refine, ("z", (), ONE)), (bench.drop, ("b",)), (bench.put, ("z", SKIP))]:
            call(*arguments)
            states.append(state(bench))
        for known in states[-2::-1]:
            self.assertIs(bench.undo(), None)
            self.assertEqual(state(bench), known)
        for known in states[1:]:
            self.assertIs(bench.redo(), None)
            self.assertEqual(state(bench), known)
        self.assertRaises(NothingToRedo, bench.redo)
        bench.undo()
        bench.undo()
        bench.put("n", SKIP)
        self.assertRaises(NothingToRedo, bench.redo)
        bench.undo()
        self.assertEqual(state(bench), states[-3])

    def test_what_changes_nothing_is_no_deed(self):
        bench = bench_of(a=("set", 0, [1, 1]), b=BOTH)
        bench.claim("a", "b")
        bench.put("c", SKIP)
        bench.undo()
        before = state(bench)
        bench.put("a", ("set", 0, (1, 1)))
        bench.edit("a", (), ["x"] and ("set", 0, [1, 1]))
        self.assertIs(bench.refine("b", (0,), ("set", 0, [0, 0])), True)
        self.assertIs(bench.refine("b", (), HANG), False)
        self.assertIs(bench.claim("a", "b"), True)
        self.assertIs(bench.claim("b", "a"), False)
        for call, arguments in [
                (bench.put, ("A", SKIP)), (bench.drop, ("x",)), (bench.rename, ("a", "b")), (bench.edit, ("a", (9,), SKIP)), (bench.claim, ("a", "a"))]:
            self.assertRaises(EndError, call, *arguments)
        self.assertEqual(state(bench), before)
        # So what was taken back can still be done again, and one more is taken back ahead of it.
        bench.redo()
        self.assertEqual(bench.names(), ["a", "b", "c"])
        bench.undo()
        bench.undo()
        self.assertEqual(bench.facts(), [])

    def test_sixty_four(self):
        bench = Bench(TWO)
        for at in range(70):
            bench.put("a", SKIP if at % 2 else COIN)
        for _ in range(64):
            bench.undo()
        self.assertRaises(NothingToUndo, bench.undo)
        self.assertEqual(bench.take("a"), SKIP)
        for _ in range(64):
            bench.redo()
        self.assertRaises(NothingToRedo, bench.redo)
        self.assertEqual(bench.take("a"), SKIP)
        bench = Bench(TWO)
        for at in range(64):
            bench.put("a", SKIP if at % 2 else COIN)
        for _ in range(64):
            bench.undo()
        self.assertEqual(len(bench), 0)
        self.assertRaises(NothingToUndo, bench.undo)
        # A new deed behind some that were taken back keeps the others.
        for _ in range(60):
            bench.redo()
        bench.put("b", SKIP)
        for _ in range(61):
            bench.undo()
        self.assertRaises(NothingToUndo, bench.undo)
        self.assertEqual(len(bench), 0)

    def test_drawn(self):
        """Undo and redo against a list of all states."""
        chance = random.Random(962)
        drawn = Drawn(chance, sizes=(2,))
        for _ in range(8):
            bench, states, at = Bench(TWO), [([], [], [])], 0
            for _ in range(120):
                kind = chance.choice(["undo", "redo", "deed", "deed"])
                if kind == "undo":
                    if at:
                        bench.undo()
                        at -= 1
                    else:
                        self.assertRaises(NothingToUndo, bench.undo)
                elif kind == "redo":
                    if at + 1 < len(states):
                        bench.redo()
                        at += 1
                    else:
                        self.assertRaises(NothingToRedo, bench.redo)
                else:
                    text = drawn.text(TWO, 1, "set either")
                    bench.put(chance.choice("abc"), text)
                    if state(bench) != states[at]:
                        states = states[max(0, at - 63):at + 1] + [state(bench)]
                        at = len(states) - 1
                self.assertEqual(state(bench), states[at])


class TestAnswers(BenchCase):
    def test_answers(self):
        bench = bench_of(free=FREE, coin=COIN)
        for name in bench.names():
            text = bench.take(name)
            for store in (0, 1):
                self.assertEqual(bench.ends(name, store), ends(TWO, text, store))
                self.assertEqual(bench.best(name, store, [1, 2, 5]), best(TWO, text, store, [1, 2, 5]))
                self.assertIs(bench.always_ends(name, store), always_ends(TWO, text, store))
            for other in bench.names():
                self.assertEqual(bench.lead(name, other), lead(TWO, text, bench.take(other)))
        bench.edit("free", (), SKIP)
        self.assertEqual(bench.ends("free", 0), [(1, 0, 0)])
        for store in WRONG_STORES:
            self.assert_raises_with(InvalidStore, store, bench.ends, "free", store)
            self.assert_raises_with(InvalidStore, store, bench.best, "free", store, None)
            self.assert_raises_with(InvalidStore, store, bench.always_ends, "free", store)
        self.assert_raises_with(InvalidPayoff, (1,), bench.best, "free", 0, (1,))
        empty(bench.ends("free", 0))
        self.assertEqual(bench.ends("free", 0), [(1, 0, 0)])
        many = bench_of(EIGHT, a=with_rows(65), b=nested_eithers(7))
        for name, count in [("a", 65), ("b", 7)]:
            self.assert_too_many(count, many.ends, name, 0)
            self.assert_too_many(count, many.lead, name, name)
        self.assert_too_many(65, many.best, "a", 0, [0] * 9)
        self.assertIs(many.always_ends("b", 0), True)


class TestLines(BenchCase):
    def test_there_and_back(self):
        bench = bench_of(b=BOTH, a=("then", FREE, COIN), c=ONE)
        bench.claim("c", "b")
        lines = ["a: ((while 0 do (either skip or set 0 to 1,1)) then draw 0 from 0,1 by 1,2)", "b: (either set 0 to 0,0 or set 0 to 1,1)",
                 "c: set 0 to 1,1", "c > b"]
        self.assertEqual(bench.lines(), lines)
        for given in (lines, tuple(lines)):
            told = read_bench(TWO, given)
            self.assertIs(type(told), Bench)
            self.assertEqual([told == bench, told.lines(), state(told)], [True, lines, state(bench)])
            self.assertRaises(NothingToUndo, told.undo)
            self.assertRaises(NothingToRedo, told.redo)
        self.assertEqual(len(read_bench(TWO, [])), 0)
        kept = ["a: skip"]
        told = read_bench(TWO, kept)
        kept.append("b: skip")
        self.assertEqual(told.lines(), ["a: skip"])

    def test_wrong_lists(self):
        for wrong in WRONG_SPACES:
            self.assert_raises_with(InvalidSpace, wrong, read_bench, wrong, None)
        for lines in any_values():
            if not isinstance(lines, (list, tuple)):
                self.assert_raises_with(InvalidLine, lines, read_bench, TWO, lines)
            elif lines:
                self.assert_raises_with(InvalidLine, lines[0], read_bench, TWO, lines)
            self.assert_raises_with(InvalidLine, lines, read_bench, TWO, ["a: skip", lines])

    def test_wrong_lines(self):
        good = ["a: skip", "b: (either skip or set 0 to 1,1)", "c: skip", "a > b", "a > c", "c > b"]
        self.assertEqual(read_bench(TWO, good).lines(), good)
        for at, line in [
                (0, "a:skip"), (0, "a : skip"), (0, "A: skip"), (0, ": skip"), (0, "a: stop"), (0, "a: skip "), (0, " a: skip"), (0, "a: "),
                (0, "a: set 0 to 0,2"), (0, "a: hole"), (0, "a"), (0, ""), (0, "abcdefghijklm: skip"), (0, "a: set 0 to 0,0,0"), (0, "a: a: skip"),
                (0, "1: skip"), (0, "a > b"), (1, "a: skip"), (2, "b: skip"), (2, "aa: skip"), (3, "a > a"), (3, "a > d"), (3, "d > a"),
                (3, "a>b"), (3, "a  > b"), (3, "a > b "), (3, "a < b"), (3, "a: b"), (3, "b > a"), (3, " > "), (3, "a > b > c"), (4, "a > b"),
                (4, "d: skip"), (5, "b > c"), (5, "a > b"), (5, "b > a"), (5, "c > b\n"), (5, "c > b: skip"), (2, "c: " + "(" * 70 + "skip" + ")" * 70)]:
            lines = good[:at] + [line] + good[at + 1:]
            with self.assertRaises(InvalidLine) as caught:
                read_bench(TWO, lines)
            wrong = caught.exception.given
            self.assertIs(wrong, lines[at], (at, line))
        self.assert_raises_with(InvalidLine, good[0], read_bench, TWO, ["b: skip", good[0]])
        # The first wrong one is told.
        self.assert_raises_with(InvalidLine, "x", read_bench, TWO, good[:3] + ["x", "y", None])

    def test_names_in_order_and_at_most_eight(self):
        lines = [f"n{at}: skip" for at in range(8)]
        self.assertEqual(len(read_bench(TWO, lines)), 8)
        self.assert_raises_with(InvalidLine, "n9: skip", read_bench, TWO, lines + ["n9: skip"])
        self.assertEqual(read_bench(TWO, lines + ["n0 > n1"]).facts(), [("n0", "n1")])

    def test_what_stands_for_raises(self):
        lines = [f"a: {Bench.lines(bench_of(a=nested_eithers(7)))[0][3:]}", "b: skip"]
        self.assert_too_many(7, read_bench, TWO, lines + ["a > b"])
        self.assert_too_many(7, read_bench, TWO, lines + ["b > a", "x"])
        self.assertEqual(read_bench(TWO, lines).lines(), lines)
        # Not asked if something else is wrong with the line.
        for line in ("a > a", "a > c", "b > a "):
            self.assert_raises_with(InvalidLine, line, read_bench, TWO, lines + [line])

    def test_facts_that_refine_keeps(self):
        # The whole texts have too many eithers to be asked, but the part that is changed has few.
        seven = counted_eithers(7, BOTH)
        bench = bench_of(a=seven, b=BOTH)
        self.assertRaises(TooMany, bench.claim, "b", "a")
        self.assertIs(bench.refine("a", (1,) * 7, ("either", ONE, ZERO)), True)
        self.assertEqual(bench.take("a"), counted_eithers(7, ("either", ONE, ZERO)))


class TestEqual(BenchCase):
    def test_by_different_ways(self):
        one = bench_of(a=ONE, b=BOTH)
        one.claim("a", "b")
        other = bench_of(b=HANG, x=("set", 0, [1, 1]))
        other.put("b", BOTH)
        other.rename("x", "a")
        self.assertIs(one == other, False)
        self.assertIs(other.claim("a", "b", paper=paper_for(TWO, ONE, BOTH)), True)
        self.assertIs(one == other, True)
        self.assertIs(one != other, False)
        other.put("c", SKIP)
        self.assertIs(one == other, False)
        other.undo()
        self.assertIs(one == other, True)
        other.edit("a", (), ZERO)
        self.assertIs(one == other, False)

    def test_others(self):
        self.assertIs(Bench(TWO) == Bench(Space([2])), True)
        self.assertIs(Bench(TWO) == Bench(Space([3])), False)
        # Equal texts of two spaces.
        self.assertIs(bench_of(TWO, a=SKIP) == bench_of(EIGHT, a=SKIP), False)
        self.assertIs(bench_of(a=SKIP) == bench_of(b=SKIP), False)
        for value in any_values():
            self.assertIs(bench_of(a=ONE) == value, False)
            self.assertIs(bench_of(a=ONE) != value, True)

    def test_reading_changes_nothing(self):
        bench = bench_of(a=ONE, b=BOTH)
        bench.claim("a", "b")
        before = frozen([bench.lines(), state(bench)])
        arguments = [("set", 0, [1, 1]), [0, 1, 0]]
        bench.best("a", 0, arguments[1])
        bench.refine("a", (), arguments[0])
        bench.chain("a", "b")
        self.assertEqual(arguments, [("set", 0, [1, 1]), [0, 1, 0]])
        self.assertEqual(frozen([bench.lines(), state(bench)]), before)


if __name__ == "__main__":
    unittest.main()
