"""Meetings: lots that can be brought for several pairs, and what choosers can have done who brought told lots."""

from endlots.errors import InvalidLots, InvalidPairs, NoCommon
from endlots.forward import bringing_blend, brought_lots, every_brought, is_bringing, is_payoff
from endlots.lots import is_lot, lowest, mean, product_sum
from endlots.places import (
    MOST_EITHERS, Places, Scene, all_scenes, is_row_tuple, need_few_eithers, need_few_rows,
)
from endlots.ratios import total
from endlots.shapes import is_index, is_list
from endlots.simplex import cheapest
from endlots.spaces import need_space
from endlots.tables import is_numbers_by_rows, is_table_of, least_table, place_numbers
from endlots.texts import is_text, need_text
from endlots.tosses import Evens, bringing_tosses, evens_of, is_tosses_for, tossed_sides

MOST_PAIRS = 4


def meeting(space, pairs):
    """A tuple (lot, blends): a lot that can be brought for each pair, and what brings it."""
    scenes = need_pairs(space, pairs)
    for scene in scenes:
        need_few_eithers([scene], MOST_EITHERS)
    brought = [brought_lots(scene) for scene in scenes]
    amounts, prices, left = common_mixture(space, [list(lots) for lots in brought])
    if left > 0:
        payoffs = opposed(prices, space.never + 1)
        raise NoCommon(payoffs, [lower_table(scene, payoff) for scene, payoff in zip(scenes, payoffs)])
    return (mixed_by(list(brought[0]), amounts[0]), [blend_by(lots, told) for lots, told in zip(brought, amounts)])


def is_meeting(space, pairs, value):
    """Tell whether any value is a tuple (lot, blends) of a lot that can be brought for each pair."""
    scenes = need_pairs_of_few_rows(space, pairs)
    if not isinstance(value, tuple) or len(value) != 2:
        return False
    lot, blends = value
    if not is_lot(space, lot) or not is_list(blends) or len(blends) != len(scenes):
        return False
    return all([is_bringing(scene, lot, blend) for scene, blend in zip(scenes, blends)])


def is_no_common(space, pairs, value):
    """Tell whether any value is a tuple (payoffs, tables) that shows that there is no lot for all pairs."""
    scenes = need_pairs_of_few_rows(space, pairs)
    if not isinstance(value, tuple) or len(value) != 2:
        return False
    if not all([is_list(part) and len(part) == len(scenes) for part in value]):
        return False
    payoffs, tables = value
    if not all([is_payoff(scene, payoff) for scene, payoff in zip(scenes, payoffs)]):
        return False
    if not all([is_lower_table(scene, payoff, table) for scene, payoff, table in zip(scenes, payoffs, tables)]):
        return False
    if any([sum([payoff[outcome] for payoff in payoffs]) > 0 for outcome in range(space.never + 1)]):
        return False
    numbers = [
        place_numbers(payoff, table)[scene.place] for scene, payoff, table in zip(scenes, payoffs, tables)
    ]
    return total(numbers).top > 0


def could_be(space, text, lots):
    """The list of the tuples (store, sides, tosses, payoff, table) that tell which sides can have been taken."""
    scenes = need_told(space, text, lots)
    need_few_eithers(scenes, MOST_EITHERS)
    told = [store for store, lot in enumerate(lots) if lot is not None]
    brought = every_brought([scenes[store] for store in told])
    return [explained(scenes[store], store, found, lots[store]) for store, found in zip(told, brought)]


def is_could_be(space, text, lots, value):
    """Tell whether any value is a list that tells which sides can have been taken, and shows it."""
    scenes = need_told(space, text, lots)
    need_few_rows(scenes)
    told = [store for store, lot in enumerate(lots) if lot is not None]
    if not is_list(value) or len(value) != len(told):
        return False
    return all([is_explained(scenes[store], store, lots[store], item) for store, item in zip(told, value)])


def need_pairs(space, pairs):
    """What can be met for each pair; InvalidPairs is raised for any value that is no list of pairs."""
    need_space(space)
    if not is_list(pairs) or not 1 <= len(pairs) <= MOST_PAIRS or not all([is_pair(space, item) for item in pairs]):
        raise InvalidPairs(pairs)
    return [Scene(Places(space, text), store) for text, store in pairs]


def need_pairs_of_few_rows(space, pairs):
    """What can be met for each pair; TooMany is raised behind the other errors, pair by pair."""
    scenes = need_pairs(space, pairs)
    for scene in scenes:
        need_few_rows([scene])
    return scenes


def is_pair(space, value):
    """Tell whether any value is a tuple of a text and a store of the space."""
    return isinstance(value, tuple) and len(value) == 2 and is_text(space, value[0]) and is_index(value[1], space.never)


def common_mixture(space, lots):
    """A tuple (amounts, prices, left): mixtures of the lots of each pair that make the same weights.

    If something is left, there are none, and the prices show it: for each further pair those of its outcomes. In their
    rows the goal is 0, made by the lots of the first pair less those of the further one; the last row keeps the
    mixture of the first pair above 0.
    """
    count = space.never + 1
    rows = count * (len(lots) - 1)
    columns = []
    for at, told in enumerate(lots):
        # The lots of the first pair stand in the rows of all others.
        starts = list(range(0, rows, count)) if at == 0 else [count * (at - 1)]
        sign = 1 if at == 0 else -1
        for lot in told:
            entries = [(first + outcome, sign * lot[outcome]) for first in starts for outcome in range(count)]
            kept = [(row, entry) for row, entry in entries if entry != 0]
            columns.append(kept + [(rows, sum(lot)) for _ in range(int(at == 0))])
    many = len(columns)
    start = [many + row for row in range(rows + 1)]
    columns = columns + [[(row, 1)] for row in range(rows + 1)]
    costs = [0 for _ in range(many)] + [1 for _ in start]
    amounts, prices, _ = cheapest(columns, costs, [0 for _ in range(rows)] + [1], start)
    return (parted(amounts, [len(told) for told in lots]), prices[:rows], sum(amounts[many:]))


def parted(items, lengths):
    """The lists of the next items, one list of each of the lengths."""
    found = []
    first = 0
    for length in lengths:
        found.append(items[first:first + length])
        first = first + length
    return found


def opposed(prices, count):
    """The payoffs, one for each pair, that prices tell: by all together each outcome has 0."""
    further = parted(lowest(prices), [count for _ in range(len(prices) // count)])
    first = [-sum([payoff[outcome] for payoff in further]) for outcome in range(count)]
    return [first] + [list(payoff) for payoff in further]


def mixed_by(lots, amounts):
    """The lot that amounts of lots make."""
    return lowest([product_sum(weights, amounts) for weights in zip(*lots)])


def blend_by(lots, amounts):
    """The blend that amounts of lots make, if the lots have the picks that bring them."""
    weighed = [(amount * sum(lot), lots[lot]) for lot, amount in zip(list(lots), amounts) if amount > 0]
    weights = lowest([weight for weight, _ in weighed])
    return [(weight, pick) for weight, (_, pick) in zip(weights, weighed)]


def lower_table(scene, payoff):
    """The lower table for a payoff with the greatest numbers."""
    return [(row, -number) for row, number in least_table(scene, [-integer for integer in payoff])]


def is_lower_table(scene, payoff, value):
    """Tell whether any value is a lower table for a payoff."""
    if not is_numbers_by_rows(scene, value):
        return False
    opposite = [(row, number * -1) for row, number in value]
    return is_table_of(scene, [-integer for integer in payoff], opposite)


def need_told(space, text, lots):
    """What can be met from each store; InvalidLots is raised for any value that is no list of told lots."""
    need_space(space)
    need_text(space, text)
    if not is_list(lots) or len(lots) != space.never or not all([lot is None or is_lot(space, lot) for lot in lots]):
        raise InvalidLots(lots)
    return all_scenes(space, text)


def explained(scene, store, found, lot):
    """The tuple (store, sides, tosses, payoff, table) for a told lot; the lots found have the picks that bring them."""
    # This raises NotBrought if nothing brings the lot.
    bringing_blend(scene, found, lot)
    evens = evens_of(scene, list(found), lot)
    return (store, evens.sides(scene), bringing_tosses(scene, found, lot, evens), evens.payoff, evens.table)


def is_explained(scene, store, lot, value):
    """Tell whether any value is a tuple (store, sides, tosses, payoff, table) for a told lot from the store."""
    if not isinstance(value, tuple) or len(value) != 5 or not is_index(value[0], scene.never) or value[0] != store:
        return False
    _, sides, tosses, payoff, table = value
    if not is_sides_list(scene, sides) or not is_tosses_for(scene, lot, tosses):
        return False
    if not is_payoff(scene, payoff) or not is_table_of(scene, payoff, table):
        return False
    if place_numbers(payoff, table)[scene.place] != mean(lot, payoff):
        return False
    told = list(sides)
    return told == tossed_sides(scene, tosses) and told == Evens(scene, payoff, table).sides(scene)


def is_sides_list(scene, value):
    """Tell whether any value is a list of sides of either rows that can be met."""
    return is_list(value) and all([is_side_met(scene, item) for item in value])


def is_side_met(scene, value):
    """Tell whether any value is a tuple of an either row that can be met and of 0 or 1."""
    return is_row_tuple(value, 2) and value[0] in scene.eithers and is_index(value[1], 2)
