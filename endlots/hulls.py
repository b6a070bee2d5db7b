"""Hulls: what lots blend to, and how far a lot is from it."""

from endlots.errors import Outside
from endlots.lots import blended, is_numbers, lowest, mean, need_lot_beside, need_lots
from endlots.ratios import Ratio, as_ratio, greatest, is_amount, is_number, total
from endlots.shapes import is_integer, is_list
from endlots.simplex import cheapest


def corners(lots):
    """The ascending list of those of the lots that are no blend of others of them."""
    need_lots(lots)
    distinct = sorted(set(lots))
    left = distinct
    for lot in distinct:
        others = [other for other in left if other != lot]
        # A lot that is a blend of others can be left out at once: the rest blends to all that it blended to.
        if others != [] and nearest(others, lot)[0] == 0:
            left = others
    return left


def shares_in(lots, lot):
    """Shares with which the lots blend to the lot."""
    need_lot_beside(lots, lot)
    number, shares, prices, _ = nearest(lots, lot)
    if number != 0:
        raise Outside(list(lowest(prices)))
    return shares


def is_shares_in(lots, lot, value):
    """Tell whether any value is a list of shares with which the lots blend to the lot."""
    need_lot_beside(lots, lot)
    return is_shares(value, len(lots)) and how_far(lots, lot, value) == 0


def is_outside(lots, lot, value):
    """Tell whether any value is a payoff whose mean by the lot is greater than by each of the lots."""
    need_lot_beside(lots, lot)
    if not is_list(value) or len(value) != len(lot) or not all([is_integer(item) for item in value]):
        return False
    return lead_by(lots, lot, value).top > 0


def distance(lots, lot):
    """A tuple (number, shares, payoff): the least distance, a nearest blend, and what shows that none is nearer."""
    need_lot_beside(lots, lot)
    number, shares, prices, scale = nearest(lots, lot)
    return (number, shares, [Ratio(price, scale) for price in prices])


def is_distance(lots, lot, value):
    """Tell whether any value is a tuple of the least distance, shares and a payoff that show it."""
    need_lot_beside(lots, lot)
    if not isinstance(value, tuple) or len(value) != 3:
        return False
    number, shares, payoff = value
    if not is_number(number) or not is_shares(shares, len(lots)) or not is_numbers(payoff, len(lot)):
        return False
    if not all([0 <= as_ratio(item).top <= as_ratio(item).bottom for item in payoff]):
        return False
    return how_far(lots, lot, shares) == number and lead_by(lots, lot, payoff) == number


def is_shares(value, count):
    """Tell whether any value is a list of so many numbers from 0 on whose sum is 1."""
    if not is_list(value) or len(value) != count or not all([is_amount(item) for item in value]):
        return False
    return total(value) == 1


def how_far(lots, lot, shares):
    """The distance of a lot and the blend of the lots with these shares."""
    tops, bottom = blended(lots, shares)
    # With both lots over one sum, the distance is counted in integers.
    whole = sum(lot) * bottom
    more = [max(0, weight * bottom - top * sum(lot)) for weight, top in zip(lot, tops)]
    return Ratio(sum(more), whole)


def lead_by(lots, lot, payoff):
    """What the mean by the lot is more than the greatest one of the means by the lots."""
    return mean(lot, payoff) - greatest([mean(other, payoff) for other in lots])


def nearest(lots, lot):
    """A tuple (number, shares, prices, scale): the least distance, shares of a nearest blend, a payoff over a scale.

    In each outcome the goal is made by lots, by what is missing at a cost, and freed of what is too much; the last row
    keeps the lots within the sum of the goal. The prices of outcomes are a payoff from 0 to 1: what is missing costs 1
    and what is too much 0.
    """
    count = len(lot)
    columns = [lot_column(other) for other in lots]
    costs = [0 for _ in lots]
    for outcome in range(count):
        columns = columns + [[(outcome, 1)], [(outcome, -1)]]
        costs = costs + [1, 0]
    columns = columns + [[(count, 1)]]
    costs = costs + [0]
    start = [len(lots) + 2 * row for row in range(count + 1)]
    amounts, prices, scale = cheapest(columns, costs, list(lot) + [sum(lot)], start)
    missing = sum([amounts[column] for column in start[:count]])
    shares = [Ratio(amount * sum(other), scale * sum(lot)) for amount, other in zip(amounts, lots)]
    # More of any lot brings the blend no farther away, so what is left of the whole may go to the first one.
    shares[0] = shares[0] + (1 - total(shares))
    return (Ratio(missing, scale * sum(lot)), shares, prices[:count], scale)


def lot_column(lot):
    """The column of a lot: its integers other than 0, and their sum in the last row."""
    return [(outcome, weight) for outcome, weight in enumerate(lot) if weight > 0] + [(len(lot), sum(lot))]
