"""Surely: the sets of stores in which a text can be made to end with certainty, and what follows in surroundings."""

from endlots.errors import InvalidSet
from endlots.forward import brought_lots, corner_lists_of, every_brought, is_payoff
from endlots.hulls import corners_of
from endlots.lots import support
from endlots.picks import blended_lot, is_blend_of, is_pick_of, picked_lot
from endlots.places import MOST_EITHERS, need_few_eithers, need_few_rows, need_scene, need_small_scene
from endlots.shapes import is_set_below
from endlots.standing import need_both_small
from endlots.tables import best_found, is_table_of, least_table, place_numbers


def supports(space, text, store):
    """The ascending list of the supports of those corners that have no share of never."""
    return supports_of(corners_of(list(brought_lots(need_small_scene(space, text, store, MOST_EITHERS)))))


def surely(space, text, store, stores):
    """A tuple that begins with "yes" or "no" and shows whether the text comes surely into the set of stores."""
    scene = need_aimed(space, text, store, stores)
    need_few_rows([scene])
    payoff = aimed_payoff(scene, stores)
    table, sides = best_found(scene, payoff)
    if place_numbers(payoff, table)[scene.place] == 1:
        return ("yes", tuple([side for _, side in sides]))
    return ("no", table)


def is_surely(space, text, store, stores, value):
    """Tell whether any value is a tuple that shows whether the text comes surely into the set of stores."""
    scene = need_aimed(space, text, store, stores)
    need_few_rows([scene])
    if not isinstance(value, tuple) or len(value) != 2:
        return False
    if value[0] == "yes":
        return is_pick_of(scene, value[1]) and lies_in(support(picked_lot(scene, value[1])), stores)
    if value[0] != "no":
        return False
    payoff = aimed_payoff(scene, stores)
    return is_table_of(scene, payoff, value[1]) and place_numbers(payoff, value[1])[scene.place].below(1)


def just(space, text, store, stores):
    """A tuple that begins with "yes" or "no" and shows whether some lot has just this set as its support."""
    scene = need_aimed(space, text, store, stores)
    need_few_eithers([scene], MOST_EITHERS)
    lots = brought_lots(scene)
    inside = [lot for lot in lots if lies_in(support(lot), stores)]
    reached = joined([support(lot) for lot in inside])
    if reached == list(stores):
        return ("yes", [(1, lots[lot]) for lot in inside])
    numbers = numbers_against(lots, stores, reached)
    return ("no", numbers, least_table(scene, numbers))


def is_just(space, text, store, stores, value):
    """Tell whether any value is a tuple that shows whether some lot has just this set as its support."""
    scene = need_aimed(space, text, store, stores)
    need_few_rows([scene])
    if not isinstance(value, tuple) or len(value) < 2:
        return False
    if value[0] == "yes":
        if len(value) != 2 or not is_blend_of(scene, value[1]):
            return False
        return support(blended_lot(scene, value[1])) == list(stores)
    if value[0] != "no" or len(value) != 3 or not is_payoff(scene, value[1]):
        return False
    aimed = [value[1][at] for at in stores]
    if min(aimed) < 0 or max(aimed) == 0 or not is_table_of(scene, value[1], value[2]):
        return False
    return place_numbers(value[1], value[2])[scene.place].top <= 0


def surely_straight(space, text, other):
    """Tell whether the text surely stands for the other one within each straight surrounding."""
    for told, others in both_supports(space, text, other):
        if not all([any([lies_in(one, stores) for one in others]) for stores in told]):
            return False
    return True


def surely_all(space, text, other):
    """Tell whether the text surely stands for the other one within each surrounding."""
    return missed_supports(space, text, other) == []


def going_round(space, text, other):
    """None, or a tuple (surrounding, store, stores) where the text comes surely into the stores, the other one not."""
    missed = missed_supports(space, text, other)
    if missed == []:
        return None
    store, stores, inside = missed[0]
    if inside == []:
        return (("hole",), store, stores)
    least = [at for at in stores if at not in joined(inside)][0]
    guard = tuple([at for at in stores if at != least])
    again = ("hole",)
    for name in reversed(range(len(space.sizes))):
        again = ("then", ("set", name, tuple([space.at(store)[name] for _ in range(space.never)])), again)
    return (("while", guard, again), guard[0], [least])


def need_aimed(space, text, store, stores):
    """What can be met; InvalidSet is raised for any value that is no set of one or more stores."""
    scene = need_scene(space, text, store)
    if not is_set_below(stores, space.never) or len(stores) == 0:
        raise InvalidSet(stores)
    return scene


def aimed_payoff(scene, stores):
    """The payoff that is 1 for the stores and 0 for all other outcomes."""
    return [int(outcome in stores) for outcome in range(scene.never + 1)]


def lies_in(items, others):
    """Tell whether each of the items is one of the others."""
    return all([item in others for item in items])


def joined(sets):
    """The union of sets."""
    return sorted(set([item for items in sets for item in items]))


def supports_of(corners):
    """The ascending list of the supports of those corners that have no share of never."""
    ending = [support(lot) for lot in corners if lot[-1] == 0]
    return [list(items) for items in sorted(set([tuple(items) for items in ending]))]


def both_supports(space, text, other):
    """For each store a tuple of the supports of both texts."""
    scenes, others = need_both_small(space, text, other, MOST_EITHERS)
    told = corner_lists_of(every_brought(scenes))
    return [(supports_of(lots), supports_of(rest)) for lots, rest in zip(told, corner_lists_of(every_brought(others)))]


def missed_supports(space, text, other):
    """The tuples (store, stores, inside), ascending, of the supports that are no union of the other text's ones.

    Inside are those of the other text's supports that lie within the stores.
    """
    found = []
    for store, (told, others) in enumerate(both_supports(space, text, other)):
        for stores in told:
            inside = [one for one in others if lies_in(one, stores)]
            if joined(inside) != stores:
                found.append((store, stores, inside))
    return found


def numbers_against(lots, stores, reached):
    """Numbers from 0 on for the stores, above 0 for those not reached, with a mean of 0 or less by each of the lots."""
    least = 0
    for lot in lots:
        gained = sum([weight for outcome, weight in enumerate(lot) if outcome in stores and outcome not in reached])
        lost = sum([weight for outcome, weight in enumerate(lot) if outcome not in stores])
        if gained > 0:
            # A lot with such a store has a share outside of the stores, too.
            least = max(least, (gained + lost - 1) // lost)
    found = []
    for outcome in range(len(list(lots)[0])):
        if outcome in stores:
            found.append(int(outcome not in reached))
        else:
            found.append(-least)
    return found
