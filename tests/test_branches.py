"""Tests of endlots.branches: what all picks bring at once is what going by each pick on its own brings."""

import random
import unittest

from asking import EIGHT, AskCase, counted_eithers, nested_eithers
from endlots.branches import Branches, lots_by_picks, place_lots_by_picks
from endlots.forward import brought, ends
from endlots.hulls import corners
from endlots.picks import lot_by, picks
from endlots.places import all_scenes
from endlots.spaces import Space
from endlots.standing import alike, closed_lists, stands_for
from endlots.texts import is_text
from endlots.times import one_lot
from plain import SKIP, Drawn, PlainScene, plain_is_brought
from test_picks import BIASED


def heavy(many):
    """A text of which many rows are met, an either at so many stores, with weights of many digits."""
    last = ("if", list(range(many)), ("either", ("draw", 2, (0, 1), (999961, 7)), ("draw", 0, (0, 1), (3, 5))), ("draw", 1, (0, 1), (17, 19)))
    text = ("then", ("draw", 1, (0, 1), (1, 999999)), ("then", ("draw", 2, (0, 1), (17, 19)), last))
    return ("while", [0, 1, 2, 3, 4, 5, 6], ("then", ("draw", 0, (0, 1), (999983, 999979)), text))


def spread(many):
    """A text like it that ends in all stores, each pick with another lot."""
    last = ("if", list(range(many)), ("either", ("draw", 2, (0, 1), (999961, 7)), ("draw", 0, (0, 1), (3, 5))), ("draw", 1, (0, 1), (17, 19)))
    text = ("then", ("draw", 1, (0, 1), (1, 9)), ("then", ("draw", 2, (0, 1), (17, 19)), last))
    return ("then", ("while", [0, 1, 2, 3, 4, 5, 6], ("draw", 2, (0, 1), (1, 1))), text)


class TestBranches(AskCase):
    def drawn_texts(self, seed, many, most_eithers):
        chance = random.Random(seed)
        drawn = Drawn(chance, weights=BIASED)
        while many > 0:
            space, text, _, _ = drawn.scene(chance.randrange(3, 6), most_eithers=most_eithers, most_rows=40, least_eithers=1)
            scenes = [PlainScene(space, text, store) for store in range(len(space))]
            if is_text(space, text) and max(len(scene.eithers) for scene in scenes) <= most_eithers:
                many -= 1
                yield (space, text, scenes)

    def test_lots_of_all_picks(self):
        several = 0
        for space, text, scenes in self.drawn_texts(771, 60, 6):
            told = lots_by_picks(all_scenes(space, text))
            for store, scene in enumerate(scenes):
                self.assertEqual(told[store], [scene.lot_by(pick) for pick in scene.picks()])
                several += len(set(told[store])) > 1
        self.assertGreater(several, 60)

    def test_lots_from_all_places(self):
        for space, text, scenes in self.drawn_texts(772, 25, 4):
            for known, scene in zip(all_scenes(space, text), scenes):
                lots = [scene.lots_by_dice(scene.dice_of(pick)) for pick in scene.picks()]
                for place, told in place_lots_by_picks(known, known.rows).items():
                    self.assertEqual(sorted(told), sorted({one[place] for one in lots}))

    def test_counted_rows(self):
        chance = random.Random(773)
        endless = 0
        for space, text, scenes in self.drawn_texts(774, 60, 4):
            for known, scene in zip(all_scenes(space, text), scenes):
                counted = [sorted(chance.sample(scene.rows, chance.randrange(len(scene.rows) + 1))) for _ in range(3)]
                for pick, (told,) in zip(scene.picks(), Branches([known], counted).all_from([known.place])):
                    passes = dict(scene.passes_by(pick))
                    without = any(passes[row] is None for rows in counted for row in rows)
                    self.assertEqual(told[scene.never + 1] > 0, without)
                    endless += without
                    if not without:
                        whole = sum(told[:scene.never + 1])
                        for number, rows in zip(told[scene.never + 2:], counted):
                            self.assertEqual(number, whole * sum(passes[row] for row in rows))
        self.assertGreater(endless, 10)

    def test_what_is_told_of_six_eithers(self):
        """Corners, blends and the like are those of the picks gone by on their own."""
        for space, text, scenes in self.drawn_texts(775, 40, 6):
            for store, scene in enumerate(scenes):
                lots = sorted({scene.lot_by(pick) for pick in scene.picks()})
                self.assertEqual(ends(space, text, store), corners(lots))
                self.assertTrue(plain_is_brought(scene, lots[0], brought(space, text, store, lots[0])))
                if len(lots) == 1:
                    self.assertEqual(one_lot(space, text, store), [
                        (row, scene.lots_by_dice(scene.dice_of(scene.picks()[0]))[row]) for row in scene.rows])
            self.assertIs(alike(space, text, text), True)

    def test_rows_of_other_stores(self):
        """From each store other either rows are met."""
        text = ("if", [0], nested_eithers(4), ("if", [1], counted_eithers(3), ("either", ("set", 0, [0] * 8), SKIP)))
        for store in range(8):
            lots = [lot_by(EIGHT, text, store, pick) for pick in picks(EIGHT, text, store)]
            self.assertEqual(lots_by_picks(all_scenes(EIGHT, text))[store], lots)

    def test_heavy_texts(self):
        space = Space([2, 2, 2])
        for make in (heavy, spread):
            for many in (2, 4, 6):
                text = make(many)
                known = lots_by_picks(all_scenes(space, text))
                for store in (0, 5, 7):
                    every = picks(space, text, store)
                    for at in sorted({0, 1, len(every) // 3, len(every) // 2, len(every) - 1}):
                        if at < len(every):
                            self.assertEqual(known[store][at], lot_by(space, text, store, every[at]))
                self.assertIs(alike(space, text, text), True)
        self.assertIs(stands_for(space, spread(6), heavy(6)), False)
        self.assertEqual(len(ends(space, heavy(6), 0)), 1)
        self.assertEqual(len(closed_lists(space, heavy(4), 0)), 46)


if __name__ == "__main__":
    unittest.main()
