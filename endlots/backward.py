"""Backward: the greatest and the least mean of a payoff, the least table, and the best sides."""

from endlots.errors import InvalidPayoff
from endlots.chains import ending_rows, side_chain
from endlots.forward import is_payoff
from endlots.places import need_few_rows, need_scene
from endlots.tables import best_found, best_mean, is_sides_of, is_table_of, least_table, mean_of, place_numbers


def best(space, text, store, payoff):
    """The greatest mean of the payoff that choosers can bring."""
    return best_mean(need_paid(space, text, store, payoff), payoff)


def least(space, text, store, payoff):
    """The least mean of the payoff that choosers can bring."""
    scene = need_paid(space, text, store, payoff)
    return -best_mean(scene, [-integer for integer in payoff])


def table(space, text, store, payoff):
    """The least table for the payoff."""
    return least_table(need_paid(space, text, store, payoff), payoff)


def best_sides(space, text, store, payoff):
    """Sides that bring the greatest mean of the payoff from each row met."""
    return best_found(need_paid(space, text, store, payoff), payoff)[1]


def is_table(space, text, store, payoff, value):
    """Tell whether any value is a table for the payoff."""
    return is_table_of(need_paid(space, text, store, payoff), payoff, value)


def is_best(space, text, store, payoff, value):
    """Tell whether any value is a tuple (number, sides, table) that shows the greatest mean of the payoff."""
    scene = need_paid(space, text, store, payoff)
    if not isinstance(value, tuple) or len(value) != 3:
        return False
    number, sides, numbered = value
    if not is_sides_of(scene, sides) or not is_table_of(scene, payoff, numbered):
        return False
    numbers = place_numbers(payoff, numbered)
    # A Ratio equals a number of its worth, and no other value.
    return numbers[scene.place] == number and are_brought(scene, sides, numbers)


def are_brought(scene, sides, numbers):
    """Tell whether the numbers are what the taken moves bring: their means, and where no end is come to, never's."""
    chain = side_chain(scene, {row: side for row, side in sides})
    ending = ending_rows(chain)
    if not all([mean_of(chain[row], numbers) == numbers[row] for row in chain]):
        return False
    return all([numbers[row] == numbers[scene.never] for row in chain if row not in ending])


def need_paid(space, text, store, payoff):
    """What can be met; InvalidPayoff is raised for any value that is no payoff, and TooMany for too many rows."""
    scene = need_scene(space, text, store)
    if not is_payoff(scene, payoff):
        raise InvalidPayoff(payoff)
    need_few_rows([scene])
    return scene
