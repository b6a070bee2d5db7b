"""Times: whether a text always ends, how many rows are passed at most, and whether choices matter at all."""

from endlots.chains import lots_of, moved_lot, pick_chain, place_lots
from endlots.errors import MayStay, TwoLots
from endlots.forward import brought_lots
from endlots.lots import is_lot
from endlots.picks import is_pick_of, picked_lot
from endlots.places import (
    MOST_EITHERS, is_by_rows, is_row_met, is_rows_met, leads_among, need_small_scene, places_of, staying_moves,
)
from endlots.shapes import is_integer, is_list
from endlots.tables import (
    best_found, is_not_below, is_numbers_by_rows, longest_found, mean_of, no_payoff, place_numbers,
)


def always_ends(space, text, store):
    """Tell whether the text ends from the store with chance 1, whatever is chosen."""
    return staying_moves(need_small_scene(space, text, store)) == {}


def falling(space, text, store):
    """The falling numbers that are least at each row."""
    scene = need_small_scene(space, text, store)
    need_no_staying(scene)
    return longest_found(scene)[0]


def is_falling(space, text, store, value):
    """Tell whether any value is a list of falling numbers."""
    return is_falling_in(need_small_scene(space, text, store), value)


def worst(space, text, store):
    """A tuple (number, sides): the greatest mean number of rows passed, and sides that bring it from each row met."""
    scene = need_small_scene(space, text, store)
    need_no_staying(scene)
    numbered, sides = longest_found(scene)
    return (place_numbers(no_payoff(scene), numbered)[scene.place], sides)


def never_most(space, text, store):
    """A tuple (number, sides, table): the greatest share of never, sides that bring it, and it from each row met."""
    scene = need_small_scene(space, text, store)
    payoff = no_payoff(scene)
    payoff[scene.never] = 1
    numbered, sides = best_found(scene, payoff)
    return (place_numbers(payoff, numbered)[scene.place], sides, numbered)


def is_may_stay(space, text, store, value):
    """Tell whether any value is a tuple (way, rows) that shows that one may stay."""
    scene = need_small_scene(space, text, store)
    if not isinstance(value, tuple) or len(value) != 2:
        return False
    way, rows = value
    if not is_way(scene, way) or not is_rows_met(scene, rows) or way[-1] not in rows:
        return False
    return all([any([leads_among(move, rows) for move in scene.moves[row]]) for row in rows])


def one_lot(space, text, store):
    """The list of the tuples (row, lot) of the lots that all choosers bring from the rows met on."""
    scene = need_small_scene(space, text, store, MOST_EITHERS)
    lots = list(brought_lots(scene).items())
    if len(lots) > 1:
        raise TwoLots(lots[0][1], lots[1][1])
    known = lots_of(pick_chain(scene, lots[0][1]), scene.never)
    return [(row, known[row]) for row in scene.rows]


def is_one_lot(space, text, store, value):
    """Tell whether any value is a list of tuples (row, lot) that shows that all choosers bring one lot."""
    scene = need_small_scene(space, text, store, MOST_EITHERS)
    if not is_by_rows(value, scene.rows, 2) or not all([is_lot(space, lot) for _, lot in value]):
        return False
    lots = place_lots(scene.never, value)
    for row in scene.rows:
        if not all([moved_lot(move, lots) == lots[row] for move in scene.moves[row]]):
            return False
    return all([lots[row] == lots[scene.never] for row in staying_moves(scene)])


def is_two_lots(space, text, store, value):
    """Tell whether any value is a tuple of two picks that bring different lots."""
    scene = need_small_scene(space, text, store, MOST_EITHERS)
    if not isinstance(value, tuple) or len(value) != 2 or not all([is_pick_of(scene, pick) for pick in value]):
        return False
    return picked_lot(scene, value[0]) != picked_lot(scene, value[1])


def is_falling_in(scene, value):
    """Tell whether any value is a list of falling numbers of a scene."""
    if not is_numbers_by_rows(scene, value):
        return False
    numbers = place_numbers(no_payoff(scene), value)
    for row in scene.rows:
        if not all([is_not_below(numbers[row] - 1, mean_of(move, numbers)) for move in scene.moves[row]]):
            return False
    return True


def need_no_staying(scene):
    """Raise MayStay if there are rows at which one may stay."""
    staying = staying_moves(scene)
    if staying != {}:
        raise MayStay(way_to(scene, staying), list(staying))


def way_to(scene, rows):
    """A shortest way from the first place to one of the rows, one of which can be met."""
    before = {scene.place: None}
    waiting = [scene.place]
    at = 0
    while waiting[at] not in rows:
        for place in places_of(scene.moves[waiting[at]]):
            if not is_integer(place) and place not in before:
                before[place] = waiting[at]
                waiting.append(place)
        at = at + 1
    way = [waiting[at]]
    while before[way[0]] is not None:
        way = [before[way[0]]] + way
    return way


def is_way(scene, value):
    """Tell whether any value is a list of rows that leads from the first place on by moves."""
    if not is_list(value) or len(value) == 0 or not all([is_row_met(scene, row) for row in value]):
        return False
    led = [value[at] in places_of(scene.moves[value[at - 1]]) for at in range(1, len(value))]
    return value[0] == scene.place and all(led)
