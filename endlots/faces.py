"""Faces: of what lots blend to, the least face that has a lot, and blends in which other lots have a share."""

from endlots.lots import divisor, product_sum
from endlots.simplex import cheapest


def face_payoff(lots, lot):
    """A payoff whose mean by a blend of the lots is 0, by none of the lots above 0, and by as few of them 0 as can be.

    The lots by which it is 0 are those that have a share in some blend of the lots that makes the lot.
    """
    payoff = [0 for _ in lot]
    left = list(lots)
    while True:
        goal = [sum(weights) for weights in zip(*left)]
        _, prices, missing = shared_in(lots, lot, goal)
        if missing == 0:
            break
        # By these prices the goal is above 0 and so is one of those that are left; no lot is below 0, the lot is 0.
        payoff = [old - price for old, price in zip(payoff, prices)]
        left = [other for other in left if product_sum(prices, other) == 0]
    shared = max(1, divisor(payoff))
    return [integer // shared for integer in payoff]


def shared_in(lots, lot, goal):
    """A tuple (amounts, prices, missing): how the goal is the first amount of the lot less those of the lots.

    The last one of the amounts is the scale that they all have. If something is missing, the goal is no part of a blend
    of the lots that makes the lot, and the prices show it.
    """
    count = len(lot)
    columns = [entries_of(lot, 1)] + [entries_of(other, -1) for other in lots]
    start = [len(columns) + row for row in range(count)]
    costs = [0 for _ in columns] + [1 for _ in range(count)]
    columns = columns + [[(row, 1)] for row in range(count)]
    amounts, prices, scale = cheapest(columns, costs, goal, start)
    return (amounts[:len(lots) + 1] + [scale], prices, sum(amounts[len(lots) + 1:]))


def entries_of(lot, sign):
    """The column of a lot, or of what is opposite to it."""
    return [(outcome, sign * weight) for outcome, weight in enumerate(lot) if weight > 0]
