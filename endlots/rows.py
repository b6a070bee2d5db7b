"""Rows: first places, moves, the rows that can be met, and at which of them one may stay."""

from endlots.errors import InvalidRow
from endlots.places import (
    is_row_tuple, leads_among, need_places, need_small_scene, need_store, staying_moves, turns_of,
)
from endlots.shapes import is_index, is_integer, is_list


def first(space, text, store):
    """The place to which the text comes first from the store."""
    places = need_places(space, text)
    need_store(space, store)
    return places.first_from(store)


def moves(space, text, row):
    """The list of the moves of a row of the text, each a list of tuples (place, weight)."""
    places = need_places(space, text)
    if not places.is_row(row):
        raise InvalidRow(row)
    return places.moves_of(row)


def met(space, text, store):
    """The set of the rows that can be met from the store."""
    return need_small_scene(space, text, store).rows


def stays(space, text, store):
    """The list of the tuples (row, index) of the moves by which one stays among the rows at which one may stay."""
    found = staying_moves(need_small_scene(space, text, store))
    return [(row, at) for row in found for at in found[row]]


def turns(space, text, store):
    """The list of the tuples (row, turn) of the rows met at which one may not stay."""
    scene = need_small_scene(space, text, store)
    found = turns_of(scene)
    return [(row, found[row]) for row in scene.rows if row in found]


def is_stays(space, text, store, value):
    """Tell whether any value is a tuple of two lists that show at which rows one may stay, and at which not."""
    scene = need_small_scene(space, text, store)
    if not isinstance(value, tuple) or len(value) != 2:
        return False
    if not all([is_list(part) and all([is_numbered_row(item) for item in part]) for part in value]):
        return False
    staying, leaving = value
    stay_rows = sorted(set([row for row, _ in staying]))
    leave_rows = [row for row, _ in leaving]
    # As each row met stands here once, no row stands in both lists, and none twice in the second one.
    if sorted(stay_rows + leave_rows) != scene.rows or len(set(staying)) != len(staying):
        return False
    return all_stay(scene, staying, stay_rows) and all_leave(scene, leaving)


def is_numbered_row(value):
    """Tell whether any value is a tuple of what is made as a row is and an integer."""
    return is_row_tuple(value, 2) and is_integer(value[1])


def all_stay(scene, staying, rows):
    """Tell whether each tuple (row, index) names a move that leads to these rows alone."""
    for row, at in staying:
        offered = scene.moves[row]
        if not is_index(at, len(offered)) or not leads_among(offered[at], rows):
            return False
    return True


def all_leave(scene, leaving):
    """Tell whether each move of each row leads to an end or to a row with a smaller number."""
    numbers = {row: number for row, number in leaving}
    for row, number in leaving:
        for move in scene.moves[row]:
            if not any([comes_nearer(place, numbers, number) for place, _ in move]):
                return False
    return True


def comes_nearer(place, numbers, number):
    """Tell whether a place is an end, or a row with a number below another one."""
    return is_integer(place) or (place in numbers and numbers[place] < number)
