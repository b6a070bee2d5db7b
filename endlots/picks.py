"""Picks, dice and blends of picks, and the lots and the numbers of passes that they bring."""

from endlots.chains import dice_chain, lot_from, passes_of, pick_chain
from endlots.errors import InvalidBlend, InvalidDice, InvalidPick
from endlots.lots import mixed_lot
from endlots.places import MOST_EITHERS, need_few_rows, need_scene, need_small_scene
from endlots.ratios import Ratio, total
from endlots.shapes import is_index, is_integer, is_list


def eithers(space, text, store):
    """The ascending list of the either rows that can be met from the store."""
    return need_small_scene(space, text, store).eithers


def picks(space, text, store):
    """The ascending list of all picks."""
    return all_picks(need_small_scene(space, text, store, MOST_EITHERS))


def is_pick(space, text, store, value):
    """Tell whether any value is a pick."""
    return is_pick_of(need_small_scene(space, text, store), value)


def lot_by(space, text, store, pick):
    """The lot that is brought by going by a pick."""
    scene = need_picked(space, text, store, pick)
    return picked_lot(scene, pick)


def passes_by(space, text, store, pick):
    """The list of the tuples (row, number of passes) if one goes by a pick."""
    scene = need_picked(space, text, store, pick)
    return by_rows(scene, passes_of(pick_chain(scene, pick), scene.place))


def is_dice(space, text, store, value):
    """Tell whether any value is dice."""
    return is_dice_of(need_small_scene(space, text, store), value)


def lot_by_dice(space, text, store, dice):
    """The lot that is brought by going by dice."""
    scene = need_diced(space, text, store, dice)
    return lot_from(dice_chain(scene, dice), scene.place, scene.never)


def passes_by_dice(space, text, store, dice):
    """The list of the tuples (row, number of passes) if one goes by dice."""
    scene = need_diced(space, text, store, dice)
    return by_rows(scene, passes_of(dice_chain(scene, dice), scene.place))


def is_blend(space, text, store, value):
    """Tell whether any value is a blend of picks."""
    return is_blend_of(need_small_scene(space, text, store), value)


def lot_of_blend(space, text, store, blend):
    """The lot that is brought by going by a blend."""
    scene = need_blended(space, text, store, blend)
    return blended_lot(scene, blend)


def passes_of_blend(space, text, store, blend):
    """The list of the tuples (row, number of passes) if one goes by a blend."""
    scene = need_blended(space, text, store, blend)
    weights = [weight for weight, _ in blend]
    passes = [passes_of(pick_chain(scene, pick), scene.place) for _, pick in blend]
    return by_rows(scene, {row: mixed([found[row] for found in passes], weights) for row in scene.rows})


def need_picked(space, text, store, pick):
    """What can be met; InvalidPick is raised for any value that is no pick there, and TooMany for too many rows."""
    scene = need_scene(space, text, store)
    if not is_pick_of(scene, pick):
        raise InvalidPick(pick)
    need_few_rows([scene])
    return scene


def need_diced(space, text, store, dice):
    """What can be met; InvalidDice is raised for any value that is no dice there, and TooMany for too many rows."""
    scene = need_scene(space, text, store)
    if not is_dice_of(scene, dice):
        raise InvalidDice(dice)
    need_few_rows([scene])
    return scene


def need_blended(space, text, store, blend):
    """What can be met; InvalidBlend is raised for any value that is no blend there, and TooMany for too many rows."""
    scene = need_scene(space, text, store)
    if not is_blend_of(scene, blend):
        raise InvalidBlend(blend)
    need_few_rows([scene])
    return scene


def all_picks(scene):
    """The ascending list of all picks of a scene."""
    found = [()]
    for _ in scene.eithers:
        found = [pick + (side,) for pick in found for side in (0, 1)]
    return found


def picked_lot(scene, pick):
    """The lot that a pick brings from the first place of a scene."""
    return lot_from(pick_chain(scene, pick), scene.place, scene.never)


def blended_lot(scene, blend):
    """The lot that a blend of picks brings from the first place of a scene."""
    lots = [picked_lot(scene, pick) for _, pick in blend]
    return mixed_lot(lots, [weight for weight, _ in blend])


def is_pick_of(scene, value):
    """Tell whether any value is a pick of a scene."""
    if not isinstance(value, tuple) or len(value) != len(scene.eithers):
        return False
    return all([is_index(side, 2) for side in value])


def is_dice_of(scene, value):
    """Tell whether any value is dice of a scene."""
    if not is_list(value) or len(value) != len(scene.eithers):
        return False
    return all([is_tossed(item) for item in value])


def is_tossed(value):
    """Tell whether any value is a tuple of two integers from 0 on that are not both 0."""
    if not isinstance(value, tuple) or len(value) != 2:
        return False
    return all([is_integer(weight) and weight >= 0 for weight in value]) and sum(value) > 0


def is_blend_of(scene, value):
    """Tell whether any value is a blend of picks of a scene."""
    if not is_list(value) or len(value) == 0 or not all([is_weighed_pick(scene, item) for item in value]):
        return False
    return len(set([pick for _, pick in value])) == len(value)


def is_weighed_pick(scene, value):
    """Tell whether any value is a tuple of an integer from 1 on and a pick of a scene."""
    if not isinstance(value, tuple) or len(value) != 2:
        return False
    return is_integer(value[0]) and value[0] >= 1 and is_pick_of(scene, value[1])


def by_rows(scene, numbers):
    """The ascending list of the tuples (row, number) of the rows of a scene."""
    return [(row, numbers[row]) for row in scene.rows]


def mixed(numbers, weights):
    """The mean of numbers by weights, or None if one of the numbers is None."""
    if any([number is None for number in numbers]):
        return None
    return total([number * weight for number, weight in zip(numbers, weights)]) * Ratio(1, sum(weights))
