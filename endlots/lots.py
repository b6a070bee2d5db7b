"""Lots: shares of outcomes, as tuples of integers in lowest terms."""

from math import gcd, lcm

from endlots.errors import InvalidLot, InvalidLots, InvalidOutcome, InvalidPayoff, InvalidWeights
from endlots.ratios import Ratio, as_ratio, is_amount, is_number, on_one_bottom
from endlots.shapes import is_from, is_index, is_integer, is_list
from endlots.spaces import need_space

LEAST_OUTCOMES = 3
MOST_OUTCOMES = 9
MOST_LOTS = 64


def is_lot(space, value):
    """Tell whether any value is a lot of the space."""
    need_space(space)
    return is_lot_over(value, space.never + 1)


def as_lot(space, weights):
    """The lot whose shares are to one another as the weights, one for each outcome."""
    need_space(space)
    if not is_weights(weights, space.never + 1):
        raise InvalidWeights(weights)
    tops, _ = on_one_bottom(weights)
    return lowest(tops)


def sure(space, outcome):
    """The lot in which the outcome has the share 1."""
    need_space(space)
    if not is_index(outcome, space.never + 1):
        raise InvalidOutcome(outcome)
    return sure_lot(outcome, space.never)


def share(lot, outcome):
    """The share of an outcome in a lot."""
    need_lot(lot)
    if not is_index(outcome, len(lot)):
        raise InvalidOutcome(outcome)
    return Ratio(lot[outcome], sum(lot))


def support(lot):
    """The set of the outcomes whose share is above 0."""
    need_lot(lot)
    return [outcome for outcome, weight in enumerate(lot) if weight > 0]


def mean(lot, payoff):
    """The sum of a list of numbers, each multiplied by the share of its outcome."""
    need_lot(lot)
    if not is_numbers(payoff, len(lot)):
        raise InvalidPayoff(payoff)
    tops, bottom = on_one_bottom(payoff)
    return Ratio(product_sum(lot, tops), sum(lot) * bottom)


def blend(lots, weights):
    """The blend of the lots with shares that are to one another as the weights, one for each lot."""
    need_lots(lots)
    if not is_weights(weights, len(lots)):
        raise InvalidWeights(weights)
    return mixed_lot(lots, weights)


def sure_lot(outcome, never):
    """The lot with outcomes up to never in which the outcome has the share 1."""
    return tuple([int(at == outcome) for at in range(never + 1)])


def mixed_lot(lots, weights):
    """The blend of however many lots with shares that are to one another as the weights."""
    return lowest(blended(lots, weights)[0])


def blended(lots, weights):
    """A tuple (tops, bottom): for each outcome the sum of its shares, each multiplied by the weight of its lot."""
    told = [(lot, as_ratio(weight)) for lot, weight in zip(lots, weights)]
    used = [(lot, weight.top, weight.bottom * sum(lot)) for lot, weight in told if weight.top != 0]
    bottom = 1
    for _, _, part in used:
        bottom = lcm(bottom, part)
    tops = [top * (bottom // part) for _, top, part in used]
    parts = [lot for lot, _, _ in used]
    return ([product_sum(shares, tops) for shares in zip(*parts)], bottom)


def product_sum(one, other):
    """The sum of the products of integers that stand at the same places."""
    return sum([left * right for left, right in zip(one, other)])


def divisor(integers):
    """The greatest common divisor of integers, 0 if all of them are 0."""
    shared = 0
    for integer in integers:
        shared = gcd(shared, integer)
    return shared


def lowest(integers):
    """The tuple of integers, not all 0, divided by their greatest common divisor."""
    shared = divisor(integers)
    return tuple([integer // shared for integer in integers])


def is_numbers(value, count):
    """Tell whether any value is a list of so many numbers."""
    return is_list(value) and len(value) == count and all([is_number(item) for item in value])


def is_weights(value, count):
    """Tell whether any value is a list of so many numbers from 0 on that are not all 0."""
    if not is_list(value) or len(value) != count or not all([is_amount(item) for item in value]):
        return False
    return any([as_ratio(item).top > 0 for item in value])


def is_lot_over(value, count):
    """Tell whether any value is a lot with so many outcomes."""
    if not isinstance(value, tuple) or len(value) != count:
        return False
    return all([is_integer(item) and item >= 0 for item in value]) and divisor(value) == 1


def is_some_lot(value):
    """Tell whether any value is a lot of any space."""
    if not isinstance(value, tuple) or not is_from(len(value), LEAST_OUTCOMES, MOST_OUTCOMES):
        return False
    return is_lot_over(value, len(value))


def need_lot(lot):
    """Raise InvalidLot for any value that is no lot of any space."""
    if not is_some_lot(lot):
        raise InvalidLot(lot)


def need_lots(lots):
    """Raise InvalidLots for any value that is no list of 1 to 64 lots with equally many integers."""
    if not is_list(lots) or not 1 <= len(lots) <= MOST_LOTS or not is_some_lot(lots[0]):
        raise InvalidLots(lots)
    if not all([is_lot_over(lot, len(lots[0])) for lot in lots]):
        raise InvalidLots(lots)


def need_lot_beside(lots, lot):
    """Raise InvalidLots, and then InvalidLot for any value that is no lot with as many integers."""
    need_lots(lots)
    if not is_lot_over(lot, len(lots[0])):
        raise InvalidLot(lot)
