"""Hulls: what lots blend to, and how far a lot is from it."""

from math import lcm

from endlots.errors import Outside
from endlots.lots import blended, is_numbers, lowest, mean, need_lot_beside, need_lots, product_sum
from endlots.ratios import Ratio, as_ratio, greatest, is_amount, is_number, total
from endlots.shapes import is_integer, is_list
from endlots.simplex import cheapest_mixture

# So many mixtures are kept and tried.
MOST_KNOWN = 12


def corners(lots):
    """The ascending list of those of the lots that are no blend of others of them."""
    need_lots(lots)
    return corners_of(lots)


def shares_in(lots, lot):
    """Shares with which the lots blend to the lot."""
    need_lot_beside(lots, lot)
    number, shares, prices, _ = nearest(lots, lot)
    if number != 0:
        raise Outside(list(lowest(prices)))
    return shares


def is_shares_in(lots, lot, value):
    """Tell whether any value is a list of shares with which the lots blend to the lot."""
    need_lot_beside(lots, lot)
    return is_shares(value, len(lots)) and how_far(lots, lot, value) == 0


def is_outside(lots, lot, value):
    """Tell whether any value is a payoff whose mean by the lot is greater than by each of the lots."""
    need_lot_beside(lots, lot)
    if not is_list(value) or len(value) != len(lot) or not all([is_integer(item) for item in value]):
        return False
    return lead_by(lots, lot, value).top > 0


def distance(lots, lot):
    """A tuple (number, shares, payoff): the least distance, a nearest blend, and what shows that none is nearer."""
    need_lot_beside(lots, lot)
    number, shares, prices, scale = nearest(lots, lot)
    return (number, shares, [Ratio(price, scale) for price in prices])


def is_distance(lots, lot, value):
    """Tell whether any value is a tuple of the least distance, shares and a payoff that show it."""
    need_lot_beside(lots, lot)
    if not isinstance(value, tuple) or len(value) != 3:
        return False
    number, shares, payoff = value
    if not is_number(number) or not is_shares(shares, len(lots)) or not is_numbers(payoff, len(lot)):
        return False
    if not all([0 <= as_ratio(item).top <= as_ratio(item).bottom for item in payoff]):
        return False
    return how_far(lots, lot, shares) == number and lead_by(lots, lot, payoff) == number


def is_shares(value, count):
    """Tell whether any value is a list of so many numbers from 0 on whose sum is 1."""
    if not is_list(value) or len(value) != count or not all([is_amount(item) for item in value]):
        return False
    return total(value) == 1


def how_far(lots, lot, shares):
    """The distance of a lot and the blend of the lots with these shares."""
    tops, bottom = blended(lots, shares)
    # With both lots over one sum, the distance is counted in integers.
    whole = sum(lot) * bottom
    more = [max(0, weight * bottom - top * sum(lot)) for weight, top in zip(lot, tops)]
    return Ratio(sum(more), whole)


def lead_by(lots, lot, payoff):
    """What the mean by the lot is more than the greatest one of the means by the lots."""
    return mean(lot, payoff) - greatest([mean(other, payoff) for other in lots])


def corners_of(lots):
    """The corners of at least one lot, however many lots there are."""
    distinct = sorted(set(lots))
    whole = 1
    for lot in distinct:
        whole = lcm(whole, sum(lot))
    # With equal sums, lots are compared as their shares are.
    scaled = {lot: tuple([weight * (whole // sum(lot)) for weight in lot]) for lot in distinct}
    found = Hull([max([(scaled[lot], lot) for lot in distinct])[1]])
    for lot in distinct:
        while lot not in found.lots:
            number, _, prices, _ = found.nearest(lot)
            if number == 0:
                break
            # Of the lots with the greatest mean the greatest one is no blend of others.
            means = [(product_sum(prices, scaled[other]), scaled[other], other) for other in distinct]
            found.take_in(max(means)[2])
    return sorted(found.lots)


def nearest(lots, lot):
    """A tuple (number, shares, prices, scale): the least distance, shares of a nearest blend, a payoff over a scale."""
    return Hull(lots).nearest(lot)


class Hull:
    """What lots blend to. Mixtures that make a lot are kept, for the same lots often make another one, too.

    In each outcome a lot is made by lots, by what is missing at a cost, and freed of what is too much; the last row
    keeps the lots within the sum of what is made. The prices of outcomes are a payoff from 0 to 1: what is missing
    costs 1 and what is too much 0.
    """

    def __init__(self, lots):
        count = len(lots[0])
        self.lots = []
        self.columns = []
        self.costs = []
        for outcome in range(count):
            self.columns = self.columns + [[(outcome, 1)], [(outcome, -1)]]
            self.costs = self.costs + [1, 0]
        self.columns.append([(count, 1)])
        self.costs.append(0)
        self.others = len(self.columns)
        self.start = [2 * row for row in range(count + 1)]
        self.known = []
        for lot in lots:
            self.take_in(lot)

    def take_in(self, lot):
        """Have one more lot."""
        self.lots.append(lot)
        self.columns.append(lot_column(lot))
        self.costs.append(0)

    def nearest(self, lot):
        """A tuple (number, shares, prices, scale): least distance, shares of a nearest blend, a payoff over a scale."""
        mixture, amounts, prices = self.mixed(list(lot) + [sum(lot)])
        shares = [Ratio(0) for _ in self.lots]
        missing = 0
        for column, amount in zip(mixture.taken, amounts):
            missing = missing + amount * self.costs[column]
            if column >= self.others:
                made = amount * sum(self.lots[column - self.others])
                shares[column - self.others] = Ratio(made, mixture.scale * sum(lot))
        if missing > 0:
            # More of any lot brings the blend no farther away, so what is left of the whole may go to the first one.
            shares[0] = shares[0] + (1 - total(shares))
        return (Ratio(missing, mixture.scale * sum(lot)), shares, prices, mixture.scale)

    def mixed(self, goal):
        """A tuple (mixture, amounts, prices) that makes a goal, amounts and prices times the scale of the mixture."""
        at, amounts = self.known_for(goal)
        if at is not None:
            mixture = self.known[at]
            self.known = [mixture] + self.known[:at] + self.known[at + 1:]
            return (mixture, amounts, [0 for _ in goal[:-1]])
        mixture = cheapest_mixture(self.columns, self.costs, goal, self.start)
        if mixture.cost() == 0:
            self.known = [mixture] + self.known[:MOST_KNOWN - 1]
        return (mixture, mixture.amounts, mixture.worths()[:-1])

    def known_for(self, goal):
        """A tuple of the index of a kept mixture and the amounts by which it makes a goal, or of None twice."""
        for at, mixture in enumerate(self.known):
            amounts = mixture.amounts_for(goal)
            if amounts is not None:
                return (at, amounts)
        return (None, None)


def lot_column(lot):
    """The column of a lot: its integers other than 0, and their sum in the last row."""
    return [(outcome, weight) for outcome, weight in enumerate(lot) if weight > 0] + [(len(lot), sum(lot))]
