"""Nearly: how far a text leads over another one, and what that comes to in surroundings."""

from endlots.errors import InvalidOther, InvalidSurrounding, MayGoOn
from endlots.forward import blend_by_shares, corner_lists_of, every_brought, is_payoff
from endlots.hulls import Hull, how_far
from endlots.lots import lowest, mean
from endlots.picks import blended_lot, is_blend_of, is_pick_of, picked_lot
from endlots.places import (
    MOST_EITHERS, Places, Scene, all_scenes, is_by_rows, need_few_eithers, need_few_rows, need_store, places_of,
    staying_moves,
)
from endlots.ratios import Ratio, as_ratio, greatest, is_number
from endlots.shapes import is_index, is_list
from endlots.spaces import need_space
from endlots.standing import FEW_EITHERS, least_lists, lots_at_first, need_both, need_both_small
from endlots.tables import (
    improved, is_not_below, is_numbers_by_rows, is_table_of, least_table, longest_found, mean_of, no_payoff,
    place_numbers,
)
from endlots.texts import is_surrounding, is_text, need_text
from endlots.times import is_falling_in


def lead(space, text, other):
    """The greatest distance of a lot that the text brings to what the other one brings from the same store."""
    scenes, others = need_both_small(space, text, other, MOST_EITHERS)
    return lead_of(every_brought(scenes), every_brought(others))


def lead_paper(space, text, other):
    """A tuple (number, above, below) that shows the lead."""
    scenes, others = need_both_small(space, text, other, FEW_EITHERS)
    lots = every_brought(scenes)
    other_lots = every_brought(others)
    number = Ratio(0)
    # Where nothing leads, a payoff that is the same for all shows it.
    farthest = (0, list(lots[0].values())[0], [1 for _ in range(space.never + 1)])
    above = []
    for store, (lists, corners) in enumerate(zip(least_lists(scenes), corner_lists_of(lots))):
        told = list(other_lots[store])
        hull = Hull(told)
        blends = []
        for lot in corners:
            far, shares, prices, _ = hull.nearest(lot)
            blends.append(blend_by_shares([other_lots[store][known] for known in told], shares))
            if number.below(far):
                number = far
                farthest = (store, lots[store][lot], list(lowest(prices)))
        above.append((lists, blends))
    store, _, payoff = farthest
    return (number, above, farthest + (least_table(others[store], payoff),))


def is_lead(space, text, other, value):
    """Tell whether any value is a tuple (number, above, below) that shows the lead."""
    scenes, others = need_both(space, text, other)
    need_few_rows(scenes)
    need_few_rows(others)
    if not isinstance(value, tuple) or len(value) != 3 or not is_number(value[0]):
        return False
    number = as_ratio(value[0])
    return are_above(scenes, others, number, value[1]) and is_lead_below(scenes, others, number, value[2])


def runs_in(space, surrounding, text, store):
    """A tuple (number, runs, moves, falling): the greatest mean number of runs of the text, and what shows it."""
    need_around(space, surrounding, text)
    need_store(space, store)
    scenes = all_scenes(space, text)
    need_few_eithers(scenes, MOST_EITHERS)
    scene = need_ending(scene_around(space, surrounding, every_brought(scenes), store), store)
    numbered, choices = runs_found(scene)
    number = place_numbers(no_payoff(scene), numbered)[scene.place]
    return (number, numbered, [(row, choices[row]) for row in scene.rows], longest_found(scene)[0])


def is_runs(space, surrounding, text, store, value):
    """Tell whether any value is a tuple (number, runs, moves, falling) that shows the greatest mean number of runs."""
    need_around(space, surrounding, text)
    need_store(space, store)
    scenes = all_scenes(space, text)
    need_few_eithers(scenes, MOST_EITHERS)
    scene = scene_around(space, surrounding, every_brought(scenes), store)
    if not isinstance(value, tuple) or len(value) != 4 or leads_to_never(scene):
        return False
    number, numbered, moves, falling = value
    if not is_numbers_by_rows(scene, numbered) or not is_move_list(scene, moves) or not is_falling_in(scene, falling):
        return False
    numbers = place_numbers(no_payoff(scene), numbered)
    # A Ratio equals a number of its worth, and no other value.
    return numbers[scene.place] == number and are_runs(scene, numbers, moves)


def bound_in(space, surrounding, text, other, store):
    """The lead of the text over the other one, times the greatest mean number of runs of the text."""
    need_around(space, surrounding, text)
    if not is_text(space, other):
        raise InvalidOther(other)
    need_store(space, store)
    scenes = all_scenes(space, text)
    others = all_scenes(space, other)
    need_few_eithers(scenes, MOST_EITHERS)
    need_few_eithers(others, MOST_EITHERS)
    lots = every_brought(scenes)
    scene = need_ending(scene_around(space, surrounding, lots, store), store)
    numbered, _ = runs_found(scene)
    return lead_of(lots, every_brought(others)) * place_numbers(no_payoff(scene), numbered)[scene.place]


def lead_of(lots, other_lots):
    """The lead of what picks bring from each store over what others bring there."""
    numbers = {}
    for found, others in zip(lots, other_lots):
        # From several stores the same lots are often brought.
        key = (tuple(found), tuple(others))
        if key not in numbers:
            hull = Hull(list(others))
            numbers[key] = greatest([Ratio(0)] + [hull.nearest(lot)[0] for lot in found if lot not in others])
    return greatest(list(numbers.values()))


def are_above(scenes, others, number, value):
    """Tell whether any value is a list of what shows, for each store, that the lead is at most the number."""
    if not is_list(value) or len(value) != len(scenes):
        return False
    return all([is_above(scene, other, number, item) for scene, other, item in zip(scenes, others, value)])


def is_above(scene, other, number, value):
    """Tell whether any value is a tuple (lists, blends) of closed lists and of what is near to their first lots."""
    lots = lots_at_first(scene, value)
    return lots is not None and all([is_near(other, lot, number, blend) for lot, blend in zip(lots, value[1])])


def is_near(other, lot, number, value):
    """Tell whether any value is a blend that brings a lot in another scene whose distance is at most the number."""
    return is_blend_of(other, value) and is_not_below(number, how_far([blended_lot(other, value)], lot, [1]))


def is_lead_below(scenes, others, number, value):
    """Tell whether any value is a tuple (store, pick, payoff, table) that shows a lead of at least the number."""
    if not isinstance(value, tuple) or len(value) != 4 or not is_index(value[0], len(scenes)):
        return False
    store, pick, payoff, table = value
    scene = scenes[store]
    other = others[store]
    if not is_pick_of(scene, pick) or not is_payoff(scene, payoff) or min(payoff) < 0 or max(payoff) == 0:
        return False
    if not is_table_of(other, payoff, table):
        return False
    reached = place_numbers(payoff, table)[other.place] + number * max(payoff)
    return is_not_below(mean(picked_lot(scene, pick), payoff), reached)


def need_around(space, surrounding, text):
    """Raise InvalidSpace, InvalidSurrounding or InvalidText for wrong arguments."""
    need_space(space)
    if not is_surrounding(space, surrounding):
        raise InvalidSurrounding(surrounding)
    need_text(space, text)


def scene_around(space, surrounding, lots, store):
    """What can be met of a surrounding with the lots of a text in its holes; TooMany is raised for too many rows."""
    scene = Scene(Places(space, surrounding, corner_lists_of(lots)), store)
    need_few_rows([scene])
    return scene


def need_ending(scene, store):
    """The scene of a surrounding itself; MayGoOn is raised if it does not always end."""
    if leads_to_never(scene) or staying_moves(scene) != {}:
        raise MayGoOn(store)
    return scene


def leads_to_never(scene):
    """Tell whether some move leads to never."""
    return any([scene.never in places_of(scene.moves[row]) for row in scene.rows])


def runs_at(scene):
    """For each row how many runs a pass of it is: 1 for a door, 0 for others."""
    return {row: int(scene.places.kind_at(row) == "hole") for row in scene.rows}


def runs_found(scene):
    """A tuple (numbers, choices): the greatest mean numbers of runs from each row on, and the moves that bring them."""
    return improved(scene.moves, {row: 0 for row in scene.rows}, no_payoff(scene), runs_at(scene))


def is_move_list(scene, value):
    """Tell whether any value is a list of tuples (row, index of a move), ascending, one for each row of a scene."""
    return is_by_rows(value, scene.rows, 2) and all([is_index(at, len(scene.moves[row])) for row, at in value])


def are_runs(scene, numbers, moves):
    """Tell whether the number of each row is the greatest one that its moves bring, and that of its told move."""
    each = runs_at(scene)
    for row, at in moves:
        means = [mean_of(move, numbers) + each[row] for move in scene.moves[row]]
        if means[at] != numbers[row] or not all([is_not_below(numbers[row], number) for number in means]):
            return False
    return True
