"""Tables: numbers at the rows of a scene that no move raises; the least table, and sides that bring its numbers."""

from endlots.chains import worths_of
from endlots.lots import product_sum
from endlots.places import is_by_rows, staying_moves
from endlots.ratios import Ratio, as_ratio, is_number, on_one_bottom
from endlots.shapes import is_index


def is_table_of(scene, payoff, value):
    """Tell whether any value is a table for a payoff, which may be of integers of any size."""
    if not is_numbers_by_rows(scene, value):
        return False
    numbers = place_numbers(payoff, value)
    for row in scene.rows:
        if not all([is_not_below(numbers[row], mean_of(move, numbers)) for move in scene.moves[row]]):
            return False
    return all([is_not_below(numbers[row], payoff[scene.never]) for row in staying_moves(scene)])


def is_numbers_by_rows(scene, value):
    """Tell whether any value is a list of tuples (row, number), ascending, one for each row of a scene."""
    return is_by_rows(value, scene.rows, 2) and all([is_number(number) for _, number in value])


def is_sides_of(scene, value):
    """Tell whether any value is a list of tuples (row, side), ascending, one for each either row of a scene."""
    return is_by_rows(value, scene.eithers, 2) and all([is_index(side, 2) for _, side in value])


def no_payoff(scene):
    """The payoff that is 0 for each outcome."""
    return [0 for _ in range(scene.never + 1)]


def place_numbers(payoff, numbered):
    """The numbers of all outcomes by a list of numbers and of the rows in a list of tuples (row, number), as Ratios."""
    numbers = {outcome: as_ratio(number) for outcome, number in enumerate(payoff)}
    for row, number in numbered:
        numbers[row] = as_ratio(number)
    return numbers


def mean_of(move, numbers):
    """The mean of the numbers at the places of a move, by their chances."""
    tops, bottom = on_one_bottom([numbers[place] for place, _ in move])
    weights = [weight for _, weight in move]
    return Ratio(product_sum(tops, weights), bottom * sum(weights))


def is_not_below(number, bound):
    """Tell whether a Ratio is at least a number."""
    return not number.below(bound)


def least_table(scene, payoff):
    """The least table for a payoff."""
    return best_found(scene, payoff)[0]


def best_mean(scene, payoff):
    """The greatest mean of a payoff from the first place of a scene."""
    return place_numbers(payoff, least_table(scene, payoff))[scene.place]


def best_found(scene, payoff):
    """A tuple (table, sides): the least table for a payoff, and sides that bring its numbers from each row."""
    staying = staying_moves(scene)
    # A move that stops at never is worth what going on for ever is worth. Where all begin with it, each row leads to
    # an end or to it, and so it stays: moves that are better in the mean lead into no round that nothing leads out of.
    moves = {row: scene.moves[row] for row in scene.rows}
    for row in staying:
        moves[row] = scene.moves[row] + [[(scene.never, 1)]]
    choices = {row: len(moves[row]) - 1 if row in staying else 0 for row in moves}
    numbered, choices = improved(moves, choices, payoff, {row: 0 for row in moves})
    for row, number in numbered:
        # Where the worth is that of never, staying leads to rows of this worth alone, and so brings it.
        if row in staying and number == payoff[scene.never]:
            choices[row] = staying[row][0]
    return (numbered, chosen_sides(scene, choices))


def longest_found(scene):
    """A tuple (numbers, sides): the greatest mean numbers of rows passed, and sides that bring them from each row.

    From no row of the scene may one stay.
    """
    each = {row: 1 for row in scene.rows}
    numbered, choices = improved(scene.moves, {row: 0 for row in scene.rows}, no_payoff(scene), each)
    return (numbered, chosen_sides(scene, choices))


def improved(moves, choices, payoff, each):
    """A tuple (numbers, choices) that no other move betters, reached by taking better moves again and again.

    By the choices one comes from each row to an end. Each has what a pass of a row is worth; it is not above 0 for any
    row, or no moves lead round without end.
    """
    while True:
        chain = {row: moves[row][choices[row]] for row in moves}
        worths = worths_of(chain, payoff, each)
        numbered = [(row, worths[row]) for row in moves]
        better = better_choices(moves, choices, place_numbers(payoff, numbered))
        if better == choices:
            return (numbered, choices)
        choices = better


def chosen_sides(scene, choices):
    """The list of the tuples (row, side) of the either rows of a scene, by the chosen indices."""
    return [(row, choices[row]) for row in scene.eithers]


def better_choices(moves, choices, numbers):
    """The choices, with a move of the greatest mean where this is greater than that of the chosen one."""
    return {row: better_choice([mean_of(move, numbers) for move in moves[row]], choices[row]) for row in moves}


def better_choice(means, choice):
    """The index of a greatest mean; the choice itself if its mean is one."""
    found = choice
    for at, number in enumerate(means):
        if means[found].below(number):
            found = at
    return found
