"""Standing: closed lists of lots at rows, and whether one text may stand for another one."""

from endlots.branches import place_lots_by_picks
from endlots.chains import place_lots
from endlots.errors import InvalidOther, NotBrought
from endlots.forward import bringing_blend, corner_lists_of, every_brought, is_bringing, is_paper_against
from endlots.hulls import Hull, is_shares
from endlots.lots import is_lot, mixed_lot
from endlots.picks import is_pick_of, picked_lot
from endlots.places import (
    MOST_EITHERS, all_scenes, is_by_rows, need_few_eithers, need_few_rows, need_small_scene, staying_moves,
)
from endlots.ratios import Ratio
from endlots.shapes import is_index, is_list
from endlots.spaces import need_space
from endlots.texts import is_text, need_text

FEW_EITHERS = 4


def closed_lists(space, text, store):
    """The list of the tuples (row, lots, shares): the corners at each row met, and what shows that they are closed."""
    return least_lists([need_small_scene(space, text, store, FEW_EITHERS)])[0]


def is_closed(space, text, store, value):
    """Tell whether any value is a list of tuples (row, lots, shares) with closed lists."""
    return is_closed_in(need_small_scene(space, text, store), value)


def stands_for(space, text, other):
    """Tell whether from each store each lot that the text brings is brought by the other one."""
    scenes, others = need_both_small(space, text, other, MOST_EITHERS)
    return lie_within(every_brought(scenes), every_brought(others))


def alike(space, text, other):
    """Tell whether each of both texts stands for the other one."""
    scenes, others = need_both_small(space, text, other, MOST_EITHERS)
    lots = every_brought(scenes)
    other_lots = every_brought(others)
    return lie_within(lots, other_lots) and lie_within(other_lots, lots)


def paper_for(space, text, other):
    """A tuple that begins with "yes" or "no" and shows whether the text stands for the other one."""
    scenes, others = need_both_small(space, text, other, FEW_EITHERS)
    lots = every_brought(scenes)
    other_lots = every_brought(others)
    for store, other_scene in enumerate(others):
        refusal = refusal_from(store, lots[store], other_scene, other_lots[store])
        if refusal is not None:
            return refusal
    papers = []
    for listed, own, other_scene, brought in zip(least_lists(scenes), corner_lists_of(lots), others, other_lots):
        blends = [bringing_blend(other_scene, brought, lot) for lot in own]
        papers.append((listed, blends))
    return ("yes", papers)


def is_paper_for(space, text, other, value):
    """Tell whether any value is a tuple that shows whether the text stands for the other one."""
    scenes, others = need_both(space, text, other)
    need_few_rows(scenes)
    need_few_rows(others)
    if not isinstance(value, tuple) or len(value) == 0:
        return False
    if value[0] == "yes":
        return len(value) == 2 and are_papers(scenes, others, value[1])
    if value[0] != "no" or len(value) != 5:
        return False
    _, store, pick, payoff, table = value
    return is_refusal(scenes, others, store, pick, (payoff, table))


def need_both(space, text, other):
    """What can be met of both texts from each store; errors are raised for wrong arguments."""
    need_space(space)
    need_text(space, text)
    if not is_text(space, other):
        raise InvalidOther(other)
    return (all_scenes(space, text), all_scenes(space, other))


def need_both_small(space, text, other, most_eithers):
    """What can be met of both texts from each store; TooMany is raised behind the other errors, for the text first."""
    scenes, others = need_both(space, text, other)
    need_few_eithers(scenes, most_eithers)
    need_few_eithers(others, most_eithers)
    return (scenes, others)


def lie_within(lots, other_lots):
    """Tell whether from each store all lots are blends of the other ones."""
    known = {}
    for found, others in zip(lots, other_lots):
        # From several stores the same lots are often brought.
        key = (tuple(found), tuple(others))
        if key not in known:
            known[key] = are_blends(found, others)
        if not known[key]:
            return False
    return True


def are_blends(lots, others):
    """Tell whether all lots are blends of other ones."""
    hull = Hull(list(others))
    for lot in lots:
        if lot not in others and hull.nearest(lot)[0] != 0:
            return False
    return True


def refusal_from(store, lots, other_scene, other_lots):
    """A tuple that shows that one of the lots, with their picks, is not brought in another scene, or None."""
    for lot in lots:
        try:
            bringing_blend(other_scene, other_lots, lot)
        except NotBrought as against:
            return ("no", store, lots[lot], against.payoff, against.table)
    return None


def least_lists(scenes):
    """For each of some scenes of one text the closed lists that have the corners at each row, with what shows it."""
    lists = corner_lists(scenes)
    shown = {}
    told = []
    for scene in scenes:
        for row in scene.rows:
            # A row has the same lists from each store; only lists that are told must not be at two places.
            if row not in shown:
                shown[row] = [shares_shown(move, lists, lists[row]) for move in scene.moves[row]]
        told.append([(row, list(lists[row]), copied(shown[row])) for row in scene.rows])
    return told


def copied(shown):
    """A copy of lists of lists of shares, with new lists throughout."""
    return [[list(shares) for shares in choices] for choices in shown]


def corner_lists(scenes):
    """For each row and each outcome the corners of what choosers can bring from there on, in scenes of one text."""
    found = {}
    for scene in scenes:
        rows = [row for row in scene.rows if row not in found]
        lots = place_lots_by_picks(scene, rows)
        for row, corners in zip(rows, corner_lists_of([lots[row] for row in rows])):
            found[row] = corners
    return listed_lots(scenes[0], list(found.items()))


def listed_lots(scene, told):
    """The lists of the rows in a list of tuples (row, lots), and for each outcome a list with the lot sure there."""
    lots = place_lots(scene.never, [])
    lists = {outcome: [lots[outcome]] for outcome in lots}
    for row, listed in told:
        lists[row] = listed
    return lists


def given_lots(move, lists):
    """The lots that the choices for a move give, in the order of the choices."""
    choices = [[]]
    for place, _ in move:
        choices = [choice + [lot] for choice in choices for lot in lists[place]]
    weights = [weight for _, weight in move]
    return [mixed_lot(choice, weights) for choice in choices]


def shares_shown(move, lists, lots):
    """For each choice for a move the shares with which the lots blend to what the choice gives."""
    given = given_lots(move, lists)
    hull = Hull(lots)
    # Many choices may give one lot.
    known = {lot: shares_among(hull, lot) for lot in sorted(set(given))}
    return [list(known[lot]) for lot in given]


def shares_among(hull, lot):
    """Shares with which the lots of a hull, each of them once, blend to a lot that they can blend to."""
    if lot in hull.lots:
        return [Ratio(int(other == lot)) for other in hull.lots]
    return hull.nearest(lot)[1]


def is_closed_in(scene, value):
    """Tell whether any value is a list of tuples (row, lots, shares) with closed lists of a scene."""
    if not is_by_rows(value, scene.rows, 3) or not all([is_lots_of(scene, lots) for _, lots, _ in value]):
        return False
    lists = listed_lots(scene, [(row, lots) for row, lots, _ in value])
    if not all([lists[scene.never][0] in lists[row] for row in staying_moves(scene)]):
        return False
    return all([is_showing(scene.moves[row], lists, lots, shares) for row, lots, shares in value])


def is_lots_of(scene, value):
    """Tell whether any value is a list, not empty, of lots of the space of a scene."""
    return is_list(value) and len(value) > 0 and all([is_lot(scene.space, lot) for lot in value])


def is_showing(moves, lists, lots, value):
    """Tell whether any value is a list of the shares of all choices for each of the moves of a row with these lots."""
    if not is_list(value) or len(value) != len(moves):
        return False
    return all([is_showing_move(move, lists, lots, shares) for move, shares in zip(moves, value)])


def is_showing_move(move, lists, lots, value):
    """Tell whether any value is a list of shares, for each choice for a move such as show what the choice gives."""
    many = 1
    for place, _ in move:
        many = many * len(lists[place])
    # The lots that choices give are worked out only where there are as many shares.
    if not is_list(value) or len(value) != many or not all([is_shares(shares, len(lots)) for shares in value]):
        return False
    return all([mixed_lot(lots, shares) == lot for shares, lot in zip(value, given_lots(move, lists))])


def are_papers(scenes, others, value):
    """Tell whether any value is a list of papers, one for each store, that one text stands for another one."""
    if not is_list(value) or len(value) != len(scenes):
        return False
    return all([is_paper_from(scene, other, paper) for scene, other, paper in zip(scenes, others, value)])


def is_paper_from(scene, other, value):
    """Tell whether any value is a tuple (lists, blends) of closed lists and of what brings the lots at their first."""
    lots = lots_at_first(scene, value)
    return lots is not None and all([is_bringing(other, lot, blend) for lot, blend in zip(lots, value[1])])


def lots_at_first(scene, value):
    """The lots at the first place in any value that is a tuple of closed lists and a list of as many; else None."""
    if not isinstance(value, tuple) or len(value) != 2 or not is_closed_in(scene, value[0]):
        return None
    lots = listed_lots(scene, [(row, told) for row, told, _ in value[0]])[scene.place]
    if not is_list(value[1]) or len(value[1]) != len(lots):
        return None
    return lots


def is_refusal(scenes, others, store, pick, paper):
    """Tell whether any three values are a store, a pick from it, and a paper against its lot for the other text."""
    if not is_index(store, len(scenes)) or not is_pick_of(scenes[store], pick):
        return False
    return is_paper_against(others[store], picked_lot(scenes[store], pick), paper)
