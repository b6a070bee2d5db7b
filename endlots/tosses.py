"""Tosses between dice, and even moves: which rows and sides can be come to if a lot is brought."""

from endlots.chains import dice_chain, lot_from
from endlots.faces import face_payoff, shared_in
from endlots.lots import lowest, mixed_lot
from endlots.picks import is_dice_of
from endlots.places import places_of
from endlots.shapes import is_integer, is_list
from endlots.tables import least_table, mean_of, place_numbers


class Evens:
    """By a table for a payoff: for each row the indices of its even moves, and the rows come to by such moves alone."""

    def __init__(self, scene, payoff, table):
        self.payoff = payoff
        self.table = table
        numbers = place_numbers(payoff, table)
        self.moves = {}
        for row in scene.rows:
            means = [mean_of(move, numbers) for move in scene.moves[row]]
            self.moves[row] = [at for at, number in enumerate(means) if number == numbers[row]]
        self.rows = come_to(scene, self.moves)

    def sides(self, scene):
        """The ascending list of the even moves, as sides, of the either rows that are come to."""
        return [(row, side) for row in scene.eithers if row in self.rows for side in self.moves[row]]


def evens_of(scene, lots, lot):
    """The even moves by which choosers who bring a lot go, if picks bring the lots and one can bring the lot."""
    payoff = face_payoff(lots, lot)
    return Evens(scene, payoff, least_table(scene, payoff))


def come_to(scene, taken):
    """A dict of the rows that are come to from the first place on by moves with the indices taken for each row."""
    found = {}
    waiting = [scene.place]
    while waiting != []:
        row = waiting.pop()
        if not is_integer(row) and row not in found:
            found[row] = True
            waiting = waiting + places_of([scene.moves[row][at] for at in taken[row]])
    return found


def picked_rows(scene, pick):
    """A dict of the rows to which a pick comes."""
    return diced_rows(scene, dice_of(pick))


def diced_rows(scene, dice):
    """A dict of the rows to which dice come."""
    taken = {row: [0] for row in scene.rows}
    for row, weights in zip(scene.eithers, dice):
        taken[row] = [side for side in (0, 1) if weights[side] > 0]
    return come_to(scene, taken)


def dice_of(pick):
    """The dice that go by a pick."""
    return [(1 - side, side) for side in pick]


def bringing_tosses(scene, lots, lot, evens):
    """Tosses that bring a lot and come to all that can be come to by even moves; the lots have the picks of them."""
    dice = [tuple([int(side in evens.moves[row]) for side in (0, 1)]) for row in scene.eithers]
    # Going by even moves alone, all of them, brings a lot that has a share in some blend that makes the lot.
    own = diced_lot(scene, dice)
    told = list(lots)
    amounts, _, _ = shared_in(told, lot, own)
    parts = [(amounts[-1] * sum(own), dice)]
    for other, amount in zip(told, amounts[1:]):
        if amount > 0:
            parts.append((amount * sum(other), dice_of(lots[other])))
    weights = lowest([weight for weight, _ in parts])
    return [(weight, tossed) for weight, (_, tossed) in zip(weights, parts)]


def diced_lot(scene, dice):
    """The lot that dice bring from the first place of a scene."""
    return lot_from(dice_chain(scene, dice), scene.place, scene.never)


def is_tosses_for(scene, lot, value):
    """Tell whether any value is tosses that bring a lot."""
    if not is_list(value) or len(value) == 0 or not all([is_weighed_dice(scene, item) for item in value]):
        return False
    lots = [diced_lot(scene, dice) for _, dice in value]
    return mixed_lot(lots, [weight for weight, _ in value]) == lot


def is_weighed_dice(scene, value):
    """Tell whether any value is a tuple of an integer from 1 on and dice of a scene."""
    if not isinstance(value, tuple) or len(value) != 2:
        return False
    return is_integer(value[0]) and value[0] >= 1 and is_dice_of(scene, value[1])


def tossed_sides(scene, tosses):
    """The ascending list of the sides that are taken, each by some of the dice that meet its row themselves."""
    found = {}
    for _, dice in tosses:
        rows = diced_rows(scene, dice)
        for row, weights in zip(scene.eithers, dice):
            for side in (0, 1):
                if row in rows and weights[side] > 0:
                    found[(row, side)] = True
    return sorted(found)
