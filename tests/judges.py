"""Plain judges for limits, passing and meetings: by the document's words, over Fractions."""

from fractions import Fraction

from plain import (
    fraction, is_end, is_listed, is_number, is_payoff_value, mean_by, mix, place_numbers, plain_is_blend,
    plain_is_brought, plain_is_table, same_row,
)


def is_list_of(value, count):
    return isinstance(value, (list, tuple)) and len(value) == count


def greatest_set(rows, moves):
    """The greatest set of these rows at each of which some move leads to rows of it alone."""
    left = list(rows)
    while True:
        wrong = [row for row in left if not any(all(place in left for place, _ in move) for move in moves[row])]
        if not wrong:
            return left
        left = [row for row in left if row not in wrong]


def plain_free_rows(scene, limits):
    """R0, by the words of [122]."""
    priced = [row for kind, told, _ in limits if kind == "passes" for row in told]
    return greatest_set([row for row in scene.rows if row not in priced], scene.moves)


def plain_is_kept(scene, limits, value):
    """By the words of [121] and [123]."""
    if not plain_is_blend(scene, value):
        return False
    whole = sum(weight for weight, _ in value)
    passes = {row: Fraction(0) for row in scene.rows}
    for weight, pick in value:
        for row, number in scene.passes_by(pick):
            more = None if number is None or passes[row] is None else passes[row] + number * Fraction(weight, whole)
            passes[row] = more
    lot = scene.blended_lot(value)
    for kind, told, number in limits:
        if kind == "passes":
            numbers = [passes.get(row, 0) for row in told]
            if None in numbers or sum(numbers) > fraction(number):
                return False
        else:
            share = Fraction(lot[told], sum(lot))
            if share < fraction(number) if kind == "least" else share > fraction(number):
                return False
    return True


def plain_is_fees(scene, limits, value):
    """By the words of [124] and [125]."""
    if type(value) is not tuple or len(value) != 2 or not is_list_of(value[0], len(limits)):
        return False
    fees, table = value
    if not all(is_number(fee) and fraction(fee) >= 0 for fee in fees):
        return False
    if not is_listed(table, scene.rows, 2) or not all(is_number(number) for _, number in table):
        return False
    costs = {place: Fraction(0) for place in [*range(scene.never + 1), *scene.rows]}
    allowance = Fraction(0)
    for fee, (kind, told, number) in zip(fees, limits):
        sign = -1 if kind == "least" else 1
        allowance += sign * fraction(fee) * fraction(number)
        for place in told if kind == "passes" else [told]:
            if place in costs:
                costs[place] += sign * fraction(fee)
    numbers = {outcome: costs[outcome] for outcome in range(scene.never + 1)}
    numbers.update({row: fraction(number) for row, number in table})
    for row in scene.rows:
        if any(numbers[row] > costs[row] + scene.mean_of(move, numbers) for move in scene.moves[row]):
            return False
    if any(numbers[row] > costs[scene.never] for row in plain_free_rows(scene, limits)):
        return False
    return numbers[scene.place] > allowance


def plain_come_to(scene, dice):
    """The rows to which dice come."""
    if is_end(scene.place):
        return []
    reach = scene.reach(scene.chances(dice))
    return [row for row in scene.rows if row == scene.place or row in reach[scene.place]]


def plain_struck(scene, row):
    struck = [row]
    while True:
        more = [
            other for other in scene.rows if other not in struck
            and all(any(place in struck for place, _ in move) for move in scene.moves[other])]
        if not more:
            return sorted(struck)
        struck.append(more[0])


def plain_is_tosses(scene, lot, value):
    """By the words of [134]: that they bring the lot."""
    if not isinstance(value, (list, tuple)) or not value:
        return False
    for one in value:
        if type(one) is not tuple or len(one) != 2 or type(one[0]) is not int or one[0] < 1:
            return False
        if not is_list_of(one[1], len(scene.eithers)):
            return False
        for pair in one[1]:
            if type(pair) is not tuple or len(pair) != 2 or not all(type(side) is int and side >= 0 for side in pair):
                return False
            if sum(pair) == 0:
                return False
    return mix([scene.lot_by_dice(dice) for _, dice in value], [weight for weight, _ in value]) == lot


def plain_is_kept_table(scene, row, payoff, value):
    """By the words of [133]."""
    struck = plain_struck(scene, row)
    rows = [other for other in scene.rows if other not in struck]
    if not is_listed(value, rows, 2) or not all(is_number(number) for _, number in value):
        return False
    moves = {
        other: [move for move in scene.moves[other] if not any(place in struck for place, _ in move)] for other in rows}
    numbers = place_numbers(payoff, value)
    if any(numbers[other] < scene.mean_of(move, numbers) for other in rows for move in moves[other]):
        return False
    return all(numbers[other] >= payoff[scene.never] for other in greatest_set(rows, moves))


def plain_is_passing(scene, lot, row, value):
    """By the words of [135]."""
    if type(value) is not tuple or not value or type(value[0]) is not str:
        return False
    struck_first = scene.place in plain_struck(scene, row)
    if value[0] == "all" and len(value) == 1:
        return struck_first
    if value[0] == "all" and len(value) == 3 and not struck_first:
        _, payoff, table = value
        if not is_payoff_value(payoff, scene.never + 1) or not plain_is_kept_table(scene, row, payoff, table):
            return False
        return place_numbers(payoff, table)[scene.place] < mean_by(lot, payoff)
    if value[0] == "some" and len(value) == 3:
        _, blend, tosses = value
        if not plain_is_brought(scene, lot, blend) or not plain_is_tosses(scene, lot, tosses):
            return False
        if any(row in plain_come_to(scene, scene.dice_of(pick)) for _, pick in blend):
            return False
        return any(row in plain_come_to(scene, dice) for _, dice in tosses)
    if value[0] == "none" and len(value) == 4:
        return plain_is_none(scene, lot, row, *value[1:])
    return False


def plain_is_none(scene, lot, row, payoff, table, rows):
    if not is_payoff_value(payoff, scene.never + 1) or not plain_is_table(scene, payoff, table):
        return False
    if not isinstance(rows, (list, tuple)) or not all(any(same_row(one, known) for known in scene.rows) for one in rows):
        return False
    numbers = place_numbers(payoff, table)
    if list(rows) != sorted(set(rows)) or numbers[scene.place] != mean_by(lot, payoff):
        return False
    if scene.place not in rows or row in rows:
        return False
    for other in rows:
        for move in scene.moves[other]:
            if scene.mean_of(move, numbers) == numbers[other]:
                if not all(is_end(place) or place in rows for place, _ in move):
                    return False
    return True


def plain_is_meeting(scenes, value):
    """By the words of [141]."""
    if type(value) is not tuple or len(value) != 2 or not is_list_of(value[1], len(scenes)):
        return False
    lot, blends = value
    if type(lot) is not tuple or not all(type(weight) is int for weight in lot):
        return False
    return all(plain_is_brought(scene, lot, blend) for scene, blend in zip(scenes, blends))


def plain_is_lower(scene, payoff, value):
    if not is_listed(value, scene.rows, 2) or not all(is_number(number) for _, number in value):
        return False
    numbers = place_numbers(payoff, value)
    if any(numbers[row] > scene.mean_of(move, numbers) for row in scene.rows for move in scene.moves[row]):
        return False
    return all(numbers[row] <= payoff[scene.never] for row in scene.staying())


def plain_is_no_common(scenes, value):
    """By the words of [142]."""
    if type(value) is not tuple or len(value) != 2 or not all(is_list_of(part, len(scenes)) for part in value):
        return False
    payoffs, tables = value
    if not all(is_payoff_value(payoff, scenes[0].never + 1) for payoff in payoffs):
        return False
    if not all(plain_is_lower(*one) for one in zip(scenes, payoffs, tables)):
        return False
    if any(sum(at) > 0 for at in zip(*payoffs)):
        return False
    return sum(place_numbers(*one)[scene.place] for scene, one in zip(scenes, zip(payoffs, tables))) > 0


def plain_tossed(scene, tosses):
    found = set()
    for _, dice in tosses:
        come = plain_come_to(scene, dice)
        for row, weights in zip(scene.eithers, dice):
            found |= {(row, side) for side in (0, 1) if row in come and weights[side] > 0}
    return sorted(found)


def plain_allowed(scene, payoff, table):
    numbers = place_numbers(payoff, table)
    come, allowed = set(), set()
    waiting = [scene.place]
    while waiting:
        row = waiting.pop()
        if is_end(row) or row in come:
            continue
        come.add(row)
        for at, move in enumerate(scene.moves[row]):
            if scene.mean_of(move, numbers) == numbers[row]:
                waiting += [place for place, _ in move]
                if row in scene.eithers:
                    allowed.add((row, at))
    return sorted(allowed)


def plain_is_could_be(scenes, lots, value):
    """By the words of [144] to [146]."""
    told = [store for store, lot in enumerate(lots) if lot is not None]
    if not is_list_of(value, len(told)):
        return False
    return all(plain_is_explained(scenes[store], store, lots[store], one) for store, one in zip(told, value))


def plain_is_explained(scene, store, lot, value):
    if type(value) is not tuple or len(value) != 5 or type(value[0]) is not int or value[0] != store:
        return False
    _, sides, tosses, payoff, table = value
    if not isinstance(sides, (list, tuple)) or not plain_is_tosses(scene, lot, tosses):
        return False
    for side in sides:
        if type(side) is not tuple or len(side) != 2 or type(side[1]) is not int or side[1] not in (0, 1):
            return False
        if not any(same_row(side[0], row) for row in scene.eithers):
            return False
    if not is_payoff_value(payoff, scene.never + 1) or not plain_is_table(scene, payoff, table):
        return False
    if place_numbers(payoff, table)[scene.place] != mean_by(lot, payoff):
        return False
    return list(sides) == plain_tossed(scene, tosses) == plain_allowed(scene, payoff, table)
