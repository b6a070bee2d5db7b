"""Chains: one move for each row, told by a pick, by dice or by sides, and what comes of them.

A chain is a dict with a list of tuples (place, weight) for each row, and with all rows that are places in it.
"""

from math import lcm

from endlots.equations import Equations
from endlots.lots import lowest, mixed_lot, sure_lot
from endlots.ratios import Ratio
from endlots.shapes import is_integer


def pick_chain(scene, pick):
    """The chain of going by a pick."""
    sides = {row: side for row, side in zip(scene.eithers, pick)}
    return side_chain(scene, sides)


def side_chain(scene, sides):
    """The chain of taking at each either row the side that a dict has for it."""
    return {row: scene.moves[row][sides.get(row, 0)] for row in scene.rows}


def dice_chain(scene, dice):
    """The chain of going by dice."""
    chain = side_chain(scene, {})
    for row, weights in zip(scene.eithers, dice):
        places = [move[0][0] for move in scene.moves[row]]
        chain[row] = [(place, weight) for place, weight in zip(places, weights) if weight > 0]
    return chain


def rows_from(chain, row):
    """A dict of the rows to which one or more moves of the chain lead from a row."""
    found = {}
    waiting = rows_in(chain[row])
    while waiting != []:
        place = waiting.pop()
        if place not in found:
            found[place] = True
            waiting = waiting + rows_in(chain[place])
    return found


def rows_in(move):
    """The list of the rows among the places of a move."""
    return [place for place, _ in move if not is_integer(place)]


def part_from(chain, place):
    """What of a chain can be come to from a place."""
    if is_integer(place):
        return {}
    found = rows_from(chain, place)
    return {row: chain[row] for row in chain if row in found or row == place}


def ending_rows(chain):
    """A dict of the rows from which an end is come to with a chance above 0."""
    before = {row: [] for row in chain}
    waiting = []
    for row in chain:
        for place, _ in chain[row]:
            if is_integer(place):
                waiting.append(row)
            else:
                before[place].append(row)
    found = {}
    while waiting != []:
        row = waiting.pop()
        if row not in found:
            found[row] = True
            waiting = waiting + before[row]
    return found


def weight_of(move):
    """The sum of the weights of a move."""
    return sum([weight for _, weight in move])


def lots_of(chain, never):
    """For each row of a chain the lot that comes of it from this row on."""
    ending = ending_rows(chain)
    terms = {}
    bottoms = {}
    for row in ending:
        found = {}
        for place, weight in chain[row]:
            # From a row that leads to no end the chain goes on for ever.
            told = place if is_integer(place) or place in ending else never
            found[told] = found.get(told, 0) + weight
        terms[row] = found
        bottoms[row] = weight_of(chain[row])
    equations = Equations(terms, bottoms)
    equations.solve()
    lots = {row: sure_lot(never, never) for row in chain}
    for row in ending:
        lots[row] = lowest([equations.terms[row].get(outcome, 0) for outcome in range(never + 1)])
    return lots


def place_lots(never, told):
    """The lots of all outcomes, each sure there, and of the rows in a list of tuples (row, lot)."""
    lots = {outcome: sure_lot(outcome, never) for outcome in range(never + 1)}
    for row, lot in told:
        lots[row] = lot
    return lots


def moved_lot(move, lots):
    """The blend of the lots of the places of a move, by their chances."""
    return mixed_lot([lots[place] for place, _ in move], [weight for _, weight in move])


def lot_from(chain, place, never):
    """The lot that comes of a chain from a place on."""
    if is_integer(place):
        return sure_lot(place, never)
    return lots_of(part_from(chain, place), never)[place]


def worths_of(chain, payoff, each):
    """For each row the mean payoff of the end that comes, and what each row passed from this row on has of each.

    From each row of the chain an end is come to with a chance above 0; integers in it are outcomes, or further ends.
    """
    terms = {}
    bottoms = {}
    for row in chain:
        bottom = weight_of(chain[row])
        found = {0: bottom * each[row]}
        for place, weight in chain[row]:
            if is_integer(place):
                found[0] = found[0] + weight * payoff[place]
            else:
                found[place] = found.get(place, 0) + weight
        terms[row] = found
        bottoms[row] = bottom
    return solved_ratios(terms, bottoms)


def solved_ratios(terms, bottoms):
    """The unknowns of equations in which the terms at 0 are numbers themselves."""
    equations = Equations(terms, bottoms)
    equations.solve()
    return {row: Ratio(equations.terms[row][0], equations.bottoms[row]) for row in equations.terms}


def passes_of(chain, place):
    """For each row of a chain the mean number of its passes from a place on, or None if it has none."""
    passes = {row: Ratio(0) for row in chain}
    part = part_from(chain, place)
    staying = endless_rows(part)
    for row in staying:
        passes[row] = None
    left = {row: part[row] for row in part if row not in staying}
    if place in left:
        found = numbers_handed_on(left, place)
        for row in found:
            passes[row] = found[row]
    return passes


def endless_rows(chain):
    """A dict of the rows of a chain to which it surely comes back from wherever it goes on from them."""
    ending = ending_rows(chain)
    reached = {row: rows_from(chain, row) for row in chain if row not in ending}
    found = {}
    for row in reached:
        if all([row in reached[other] for other in reached[row]]):
            found[row] = True
    return found


def numbers_handed_on(chain, place):
    """The mean number of passes of each row of a chain of rows that are passed, none of them without end."""
    terms = {row: {} for row in chain}
    # An equation has one bottom for all rows that hand on to its row.
    bottom = 1
    for row in chain:
        bottom = lcm(bottom, weight_of(chain[row]))
    for row in chain:
        often = bottom // weight_of(chain[row])
        for other, weight in chain[row]:
            if other in terms:
                terms[other][row] = terms[other].get(row, 0) + weight * often
    terms[place][0] = bottom
    return solved_ratios(terms, {row: bottom for row in chain})
