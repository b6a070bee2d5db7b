"""Limits on passes and outcomes: blends that keep them, or fees that forbid it."""

from endlots.branches import Branches
from endlots.chains import passes_of, pick_chain
from endlots.errors import InvalidLimits, NotKept
from endlots.lots import divisor, lowest, share
from endlots.picks import all_picks, blended_lot, is_blend_of, mixed
from endlots.places import MOST_EITHERS, need_few_eithers, need_few_rows, need_scene, staying_moves
from endlots.ratios import Ratio, as_ratio, is_amount, total
from endlots.shapes import is_ascending, is_index, is_list
from endlots.simplex import cheapest
from endlots.tables import improved, is_not_below, is_numbers_by_rows, mean_of, place_numbers

MOST_LIMITS = 6

# By so much the cost of stopping where nobody may stop grows until it is high enough.
HIGHER = 1000000000


def free_stays(space, text, store, limits):
    """The list of the tuples (row, index) of the rows at which one may stay within the limits, and of a move there."""
    scene = need_limited(space, text, store, limits)
    need_few_rows([scene])
    found = free_staying(scene, limits)
    return [(row, found[row][0]) for row in found]


def kept(space, text, store, limits):
    """A blend of picks that keeps the limits."""
    scene = need_limited(space, text, store, limits)
    need_few_eithers([scene], MOST_EITHERS)
    picks = picks_within(scene, limits)
    branches = list(picks)
    amounts, prices, left = nearest_within(scene, limits, branches)
    if left == 0:
        weights = lowest([amount * sum(branch[:scene.never + 1]) for amount, branch in zip(amounts, branches)])
        return [(weight, picks[branch]) for weight, branch in zip(weights, branches) if weight > 0]
    fees = fees_of(limits, prices)
    raise NotKept(fees, forbidding_table(scene, limits, fees))


def is_kept(space, text, store, limits, value):
    """Tell whether any value is a blend that keeps the limits."""
    scene = need_limited(space, text, store, limits)
    need_few_rows([scene])
    if not is_blend_of(scene, value):
        return False
    weights = [weight for weight, _ in value]
    passes = [passes_of(pick_chain(scene, pick), scene.place) for _, pick in value]
    lot = blended_lot(scene, value)
    for kind, told, number in limits:
        if kind == "passes":
            reached = passes_among(scene, told, passes, weights)
        else:
            reached = share(lot, told)
        if not is_within(kind, reached, as_ratio(number)):
            return False
    return True


def is_fees(space, text, store, limits, value):
    """Tell whether any value is a tuple (fees, table) that forbids to keep the limits."""
    scene = need_limited(space, text, store, limits)
    need_few_rows([scene])
    if not isinstance(value, tuple) or len(value) != 2:
        return False
    fees, table = value
    if not is_list(fees) or len(fees) != len(limits) or not all([is_amount(fee) for fee in fees]):
        return False
    return is_numbers_by_rows(scene, table) and is_forbidding(scene, limits, fees, table)


def need_limited(space, text, store, limits):
    """What can be met; InvalidLimits is raised for any value that is no list of limits of the text."""
    scene = need_scene(space, text, store)
    if not is_list(limits) or len(limits) > MOST_LIMITS or not all([is_limit(scene.places, item) for item in limits]):
        raise InvalidLimits(limits)
    return scene


def is_limit(places, value):
    """Tell whether any value is a limit for a text."""
    if not isinstance(value, tuple) or len(value) != 3 or not is_amount(value[2]):
        return False
    kind, told, _ = value
    if kind == "passes":
        return is_list(told) and all([places.is_row(row) for row in told]) and is_ascending(told)
    return (kind == "least" or kind == "most") and is_index(told, places.space.never + 1)


def priced_rows(scene, limits):
    """A dict of the rows of a scene that are in the set of a limit."""
    found = {}
    for kind, told, _ in limits:
        if kind == "passes":
            for row in told:
                if row in scene.moves:
                    found[row] = True
    return found


def free_staying(scene, limits):
    """For each row at which one may stay within the limits the indices of the moves that lead to such rows alone."""
    return staying_moves(scene, priced_rows(scene, limits))


def passes_among(scene, rows, passes, weights):
    """How often rows are passed by picks with these passes and weights, or None if one is passed without end."""
    numbers = [mixed([found[row] for found in passes], weights) for row in rows if row in scene.moves]
    if any([number is None for number in numbers]):
        return None
    return total(numbers)


def is_within(kind, reached, number):
    """Tell whether what is reached, None for passes without end, is within a limit of a kind with the number."""
    if reached is None:
        return False
    if kind == "least":
        return is_not_below(reached, number)
    return is_not_below(number, reached)


def picks_within(scene, limits):
    """The branches of picks that pass no priced row without end, as tuples, each with the least such pick."""
    counted = [told for kind, told, _ in limits if kind == "passes"]
    found = {}
    for pick, told in zip(all_picks(scene), Branches([scene], counted).all_from([scene.place])):
        branch = tuple(told[0])
        if branch[scene.never + 1] == 0:
            found.setdefault(branch, pick)
    return found


def nearest_within(scene, limits, branches):
    """A tuple (amounts, prices, left) of a mixture of branches that is as near as can be to keeping the limits.

    What is left is above 0 if none keeps them. The last row keeps the mixture a whole one; there and in rows of limits
    with "least" what is missing is made at a cost, in other rows what is left of a limit at none.
    """
    rows = len(limits) + 1
    columns = [entries_of(scene, limits, branch) for branch in branches]
    start = [len(branches) + row for row in range(rows)]
    columns = columns + [[(row, 1)] for row in range(rows)]
    costs = [0 for _ in branches] + [int(kind == "least") for kind, _, _ in limits] + [1]
    for row, (kind, _, _) in enumerate(limits):
        if kind == "least":
            columns = columns + [[(row, -1)]]
            costs = costs + [0]
    goal = [as_ratio(number).top for _, _, number in limits] + [1]
    amounts, prices, _ = cheapest(columns, costs, goal, start)
    left = sum([amount * cost for amount, cost in zip(amounts, costs)])
    return (amounts[:len(branches)], prices[:len(limits)], left)


def entries_of(scene, limits, branch):
    """What a branch has in the row of each limit, times the bottom of the limit's number, and in the last row."""
    entries = []
    passes = scene.never + 2
    for row, (kind, told, number) in enumerate(limits):
        reached = branch[passes] if kind == "passes" else branch[told]
        passes = passes + int(kind == "passes")
        entries.append((row, reached * as_ratio(number).bottom))
    return [(row, entry) for row, entry in entries if entry > 0] + [(len(limits), sum(branch[:scene.never + 1]))]


def fees_of(limits, prices):
    """The fees that prices of the rows of limits tell, as Ratios of integers without a common divisor."""
    fees = [abs(price) * as_ratio(number).bottom for price, (_, _, number) in zip(prices, limits)]
    shared = max(1, divisor(fees))
    return [Ratio(fee // shared) for fee in fees]


class Costs:
    """What rows and outcomes cost by fees, and the allowance."""

    def __init__(self, scene, limits, fees):
        costs = {row: [] for row in scene.rows}
        outcomes = [[] for _ in range(scene.never + 1)]
        allowed = []
        for fee, (kind, told, number) in zip(fees, limits):
            # What is asked for at least is paid back.
            signed = -as_ratio(fee) if kind == "least" else as_ratio(fee)
            allowed.append(signed * number)
            if kind != "passes":
                outcomes[told].append(signed)
            else:
                for row in told:
                    if row in costs:
                        costs[row].append(signed)
        self.of_row = {row: total(costs[row]) for row in costs}
        self.of_outcome = [total(numbers) for numbers in outcomes]
        self.allowance = total(allowed)


def is_forbidding(scene, limits, fees, table):
    """Tell whether fees forbid together with a list of tuples (row, number), one for each row of a scene."""
    costs = Costs(scene, limits, fees)
    numbers = place_numbers(costs.of_outcome, table)
    for row in scene.rows:
        bounds = [mean_of(move, numbers) + costs.of_row[row] for move in scene.moves[row]]
        if not all([is_not_below(bound, numbers[row]) for bound in bounds]):
            return False
    if not all([is_not_below(numbers[scene.never], numbers[row]) for row in free_staying(scene, limits)]):
        return False
    return costs.allowance.below(numbers[scene.place])


def forbidding_table(scene, limits, fees):
    """The table with which fees, Ratios of integers, forbid; there is one."""
    costs = Costs(scene, limits, fees)
    staying = free_staying(scene, limits)
    bound = 1
    while True:
        table = least_costs(scene, costs, staying, bound)
        if costs.allowance.below(place_numbers(costs.of_outcome, table)[scene.place]):
            return table
        bound = bound * HIGHER


def least_costs(scene, costs, staying, bound):
    """The least mean costs from each row on if one may also stop anywhere at the cost of the bound.

    Without such stops there may be rows from which nobody ends or stays within the limits; the higher the bound, the
    nearer the numbers are to the least costs without them, from below.
    """
    moves = {}
    for row in scene.rows:
        stops = [[(scene.never, 1)]] if row in staying else []
        moves[row] = scene.moves[row] + stops + [[(scene.never + 1, 1)]]
    payoff = [-cost.top for cost in costs.of_outcome] + [-bound]
    each = {row: -costs.of_row[row].top for row in scene.rows}
    numbered, _ = improved(moves, {row: len(moves[row]) - 1 for row in moves}, payoff, each)
    return [(row, -number) for row, number in numbered]
