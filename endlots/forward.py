"""Forward: the lots that choosers can bring, blends that bring them, and papers against others."""

from endlots.branches import lots_by_picks
from endlots.errors import InvalidLot, NotBrought, Outside
from endlots.hulls import corners_of, shares_in
from endlots.lots import is_lot, lowest, mean
from endlots.picks import all_picks, blended_lot, is_blend_of
from endlots.places import MOST_EITHERS, need_few_eithers, need_scene, need_small_scene
from endlots.ratios import on_one_bottom
from endlots.shapes import is_integer, is_list
from endlots.tables import is_table_of, least_table, place_numbers


def ends(space, text, store):
    """The ascending list of the corners of the lots that choosers can bring with the text from the store."""
    return corners_of(list(brought_lots(need_small_scene(space, text, store, MOST_EITHERS))))


def brought(space, text, store, lot):
    """A blend of picks that brings the lot."""
    scene = need_scene(space, text, store)
    need_lot_of(space, lot)
    need_few_eithers([scene], MOST_EITHERS)
    return bringing_blend(scene, brought_lots(scene), lot)


def is_brought(space, text, store, lot, value):
    """Tell whether any value is a blend that brings the lot."""
    scene = need_scene(space, text, store)
    need_lot_of(space, lot)
    return is_bringing(scene, lot, value)


def is_against(space, text, store, lot, value):
    """Tell whether any value is a paper against the lot."""
    scene = need_scene(space, text, store)
    need_lot_of(space, lot)
    return is_paper_against(scene, lot, value)


def need_lot_of(space, lot):
    """Raise InvalidLot for any value that is no lot of the space."""
    if not is_lot(space, lot):
        raise InvalidLot(lot)


def brought_lots(scene):
    """A dict of the lots that picks bring from the first place, each with the least such pick."""
    return every_brought([scene])[0]


def every_brought(scenes):
    """For each of some scenes of one text what brought_lots tells."""
    return [first_picks(list(zip(all_picks(scene), lots))) for scene, lots in zip(scenes, lots_by_picks(scenes))]


def corner_lists_of(lots):
    """For each of some lists of lots its corners, in lists of their own; equal lists are asked but once."""
    known = {}
    for told in lots:
        key = tuple(told)
        if key not in known:
            known[key] = corners_of(key)
    return [list(known[tuple(told)]) for told in lots]


def first_picks(told):
    """A dict of the lots in tuples (pick, lot), each with the first pick that it stands beside."""
    found = {}
    for pick, lot in told:
        found.setdefault(lot, pick)
    return found


def bringing_blend(scene, lots, lot):
    """A blend that brings a lot, of the lots with their picks; NotBrought is raised if there is none."""
    told = list(lots)
    try:
        shares = shares_in(told, lot)
    except Outside as outside:
        payoff = outside.payoff
        raise NotBrought(payoff, least_table(scene, payoff)) from None
    return blend_by_shares([lots[known] for known in told], shares)


def blend_by_shares(picks, shares):
    """The blend of picks with these shares, those without a share left out."""
    tops, _ = on_one_bottom(shares)
    return [(weight, pick) for weight, pick in zip(lowest(tops), picks) if weight > 0]


def is_bringing(scene, lot, value):
    """Tell whether any value is a blend of picks of a scene that brings a lot."""
    return is_blend_of(scene, value) and blended_lot(scene, value) == lot


def is_paper_against(scene, lot, value):
    """Tell whether any value is a paper against a lot in a scene."""
    if not isinstance(value, tuple) or len(value) != 2:
        return False
    payoff, table = value
    if not is_payoff(scene, payoff) or not is_table_of(scene, payoff, table):
        return False
    return place_numbers(payoff, table)[scene.place].below(mean(lot, payoff))


def is_payoff(scene, value):
    """Tell whether any value is a list of integers, one for each outcome."""
    return is_list(value) and len(value) == scene.never + 1 and all([is_integer(item) for item in value])
