"""Passing: which rows are passed by all, by some or by none of the choosers that bring a lot."""

from endlots.branches import lots_by_picks
from endlots.errors import InvalidRow, Outside
from endlots.forward import bringing_blend, first_picks, is_bringing, is_payoff, need_lot_of
from endlots.hulls import nearest, shares_in
from endlots.lots import mean
from endlots.picks import all_picks
from endlots.places import MOST_EITHERS, is_row_met, is_rows_met, need_few_eithers, need_scene
from endlots.tables import is_table_of, least_table, mean_of, place_numbers
from endlots.tosses import bringing_tosses, diced_rows, evens_of, is_tosses_for, picked_rows


def passed(space, text, store, lot):
    """The list of the tuples (row, word) that tell by which choosers that bring the lot a row is passed."""
    return Passing(need_brought(space, text, store, lot), lot).row_words()


def struck_rows(space, text, store, row):
    """The set of the rows that are struck with a row."""
    scene = need_scene(space, text, store)
    need_row_met(scene, row)
    struck = struck_with(scene, row)
    return [other for other in scene.rows if other in struck]


def through(space, text, store, lot):
    """Tosses that bring the lot and come to all rows that some chooser who brings the lot passes."""
    return Passing(need_brought(space, text, store, lot), lot).tosses()


def passing_paper(space, text, store, lot, row):
    """A paper for the word that passed has for a row."""
    scene = need_scene(space, text, store)
    need_lot_of(space, lot)
    need_row_met(scene, row)
    need_few_eithers([scene], MOST_EITHERS)
    return Passing(scene, lot).paper(row)


def is_passing_paper(space, text, store, lot, row, value):
    """Tell whether any value is a paper for a word on a row."""
    scene = need_scene(space, text, store)
    need_lot_of(space, lot)
    need_row_met(scene, row)
    if not isinstance(value, tuple) or len(value) == 0:
        return False
    told = value[1:]
    if value[0] == "all":
        return is_all_paper(scene, lot, row, told)
    if value[0] == "some":
        return len(told) == 2 and is_some_paper(scene, lot, row, told[0], told[1])
    return value[0] == "none" and len(told) == 3 and is_none_paper(scene, lot, row, told)


def need_brought(space, text, store, lot):
    """What can be met; InvalidLot is raised for any value that is no lot, and TooMany as for six eithers."""
    scene = need_scene(space, text, store)
    need_lot_of(space, lot)
    need_few_eithers([scene], MOST_EITHERS)
    return scene


def need_row_met(scene, row):
    """Raise InvalidRow for any value that is no row that can be met."""
    if not is_row_met(scene, row):
        raise InvalidRow(row)


class Passing:
    """What choosers can pass that bring a lot; NotBrought is raised if none does."""

    def __init__(self, scene, lot):
        self.scene = scene
        self.lot = lot
        self.picks = list(zip(all_picks(scene), lots_by_picks([scene])[0]))
        self.lots = first_picks(self.picks)
        self.blend = bringing_blend(scene, self.lots, lot)
        self.evens = evens_of(scene, list(self.lots), lot)
        self.coming = {pick: picked_rows(scene, pick) for pick, _ in self.picks}

    def row_words(self):
        """The list of the tuples (row, word), one for each row met."""
        # Blends that are known to bring the lot show at once that rows can be gone without.
        known = [[self.coming[pick] for _, pick in self.blend]]
        found = []
        for row in self.scene.rows:
            word = "none"
            if row in self.evens.rows:
                blend = self.blend_without(row, known)
                word = "all" if blend is None else "some"
            found.append((row, word))
        return found

    def blend_without(self, row, known):
        """Told rows of a blend that brings the lot without coming to a row, noted among those known, or None."""
        for told in known:
            if not any([row in rows for rows in told]):
                return told
        lots = list(self.lots_without(row).items())
        if lots == []:
            return None
        number, shares, _, _ = nearest([lot for lot, _ in lots], self.lot)
        if number != 0:
            return None
        told = [self.coming[pick] for part, (_, pick) in zip(shares, lots) if part != 0]
        known.append(told)
        return told

    def lots_without(self, row):
        """A dict of the lots of the picks that do not come to a row, each with such a pick."""
        return first_picks([(pick, lot) for pick, lot in self.picks if row not in self.coming[pick]])

    def tosses(self):
        """Tosses that bring the lot and come to all that can be passed."""
        return bringing_tosses(self.scene, self.lots, self.lot, self.evens)

    def paper(self, row):
        """A paper for the word on a row."""
        lots = self.lots_without(row)
        if lots == {}:
            return ("all",)
        told = list(lots)
        try:
            shares_in(told, self.lot)
        except Outside as outside:
            kept = Kept(self.scene, struck_with(self.scene, row))
            return ("all", outside.payoff, least_table(kept, outside.payoff))
        if row in self.evens.rows:
            return ("some", bringing_blend(self.scene, lots, self.lot), self.tosses())
        rows = [other for other in self.scene.rows if other in self.evens.rows]
        return ("none", self.evens.payoff, self.evens.table, rows)


class Kept:
    """What is kept of a scene if rows are struck."""

    def __init__(self, scene, struck):
        self.never = scene.never
        self.rows = [row for row in scene.rows if row not in struck]
        self.moves = {}
        for row in self.rows:
            self.moves[row] = [move for move in scene.moves[row] if not leads_to_some(move, struck)]
        self.eithers = []


def leads_to_some(move, rows):
    """Tell whether one of the rows is among the places of a move."""
    return any([place in rows for place, _ in move])


def struck_with(scene, row):
    """A dict of the rows that are struck with a row."""
    struck = {row: True}
    found = [row]
    while found != []:
        found = [
            other for other in scene.rows
            if other not in struck and all([leads_to_some(move, struck) for move in scene.moves[other]])
        ]
        for other in found:
            struck[other] = True
    return struck


def is_all_paper(scene, lot, row, told):
    """Tell whether what stands behind the word in a tuple shows that a row is passed by all."""
    struck = struck_with(scene, row)
    if scene.place in struck:
        return len(told) == 0
    if len(told) != 2 or not is_payoff(scene, told[0]) or not is_table_of(Kept(scene, struck), told[0], told[1]):
        return False
    payoff, table = told
    return place_numbers(payoff, table)[scene.place].below(mean(lot, payoff))


def is_some_paper(scene, lot, row, blend, tosses):
    """Tell whether any two values show that a row can be passed, and gone without, by who brings the lot."""
    if not is_bringing(scene, lot, blend) or not is_tosses_for(scene, lot, tosses):
        return False
    if any([row in picked_rows(scene, pick) for _, pick in blend]):
        return False
    return any([row in diced_rows(scene, dice) for _, dice in tosses])


def is_none_paper(scene, lot, row, told):
    """Tell whether a payoff, a table and rows show that a row is passed by nobody who brings the lot."""
    payoff, table, rows = told
    if not is_payoff(scene, payoff) or not is_table_of(scene, payoff, table) or not is_rows_met(scene, rows):
        return False
    numbers = place_numbers(payoff, table)
    if numbers[scene.place] != mean(lot, payoff):
        return False
    if scene.place not in rows or row in rows:
        return False
    led = [
        place for other in rows for move in scene.moves[other] if mean_of(move, numbers) == numbers[other]
        for place, _ in move
    ]
    # A place that is a store is no row, and asks nothing.
    return all([place in rows for place in led if place in scene.moves])
