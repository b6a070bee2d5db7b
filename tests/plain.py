"""A second, plain way to what the package tells about texts: by the document's words, over Fractions."""

from fractions import Fraction
from itertools import product
from math import gcd

from endlots.ratios import Ratio
from endlots.spaces import Space

SKIP = ("skip",)


def fraction(number):
    return Fraction(number.top, number.bottom) if isinstance(number, Ratio) else Fraction(number)


def ratio(number):
    return Ratio(Fraction(number).numerator, Fraction(number).denominator)


def is_end(place):
    return isinstance(place, int)


def inner_texts(part):
    return [item for item in part if isinstance(item, tuple) and item and isinstance(item[0], str)]


def solved(matrix, given):
    """The solution of linear equations over Fractions; given has a list for each equation."""
    lines = [list(map(Fraction, line)) + list(map(Fraction, more)) for line, more in zip(matrix, given)]
    count = len(lines)
    for at in range(count):
        pivot = next(k for k in range(at, count) if lines[k][at] != 0)
        lines[at], lines[pivot] = lines[pivot], lines[at]
        lines[at] = [entry / lines[at][at] for entry in lines[at]]
        for other in range(count):
            if other != at and lines[other][at] != 0:
                factor = lines[other][at]
                lines[other] = [entry - factor * here for entry, here in zip(lines[other], lines[at])]
    return [line[count:] for line in lines]


def lot_of_shares(shares):
    common = 1
    for share in shares:
        common = common * share.denominator // gcd(common, share.denominator)
    tops = [int(share * common) for share in shares]
    shared = gcd(*tops)
    return tuple(top // shared for top in tops)


def shares_of(lot):
    return [Fraction(one, sum(lot)) for one in lot]


def mean_by(lot, payoff):
    return sum(share * fraction(number) for share, number in zip(shares_of(lot), payoff))


def mix(lots, weights):
    """The lot of the blend of lots by weights of whatever sum above 0."""
    weights = [fraction(weight) for weight in weights]
    told = [
        sum(weight * shares_of(lot)[at] for lot, weight in zip(lots, weights)) / sum(weights)
        for at in range(len(lots[0]))]
    return lot_of_shares(told)


class Plain:
    """A text of a space, which is gone through by a stack of what is still to be done."""

    def __init__(self, space, text):
        self.sizes = space.sizes
        self.stores = list(product(*[range(size) for size in self.sizes]))
        self.never = len(self.stores)
        self.parts = {}
        self.note((), text)

    def note(self, path, part):
        self.parts[path] = part
        for at, child in enumerate(inner_texts(part)):
            self.note(path + (at,), child)

    def changed(self, store, name, value):
        values = list(self.stores[store])
        values[name] = value
        return self.stores.index(tuple(values))

    def run(self, todo, store):
        """The place that is come to with these paths to be done one behind the other."""
        while todo:
            path, rest = todo[0], todo[1:]
            part = self.parts[path]
            if part[0] in ("draw", "either", "hole") or part[0] == "while" and store in part[1]:
                return (path, store)
            if part[0] == "then":
                rest = [path + (0,), path + (1,)] + rest
            if part[0] == "if":
                rest = [path + (0 if store in part[1] else 1,)] + rest
            if part[0] == "set":
                store = self.changed(store, part[1], part[2][store])
            todo = rest
        return store

    def todo_behind(self, path):
        """The paths that are to be done behind the part with the path, found from the whole text down."""
        rest = []
        for at, step in enumerate(path):
            outer = path[:at]
            if self.parts[outer][0] == "while":
                rest = [outer] + rest
            if self.parts[outer][0] == "then" and step == 0:
                rest = [outer + (1,)] + rest
        return rest

    def first(self, store):
        return self.run([()], store)

    def rows(self):
        """All rows of the text."""
        found = []
        for path, part in self.parts.items():
            if part[0] in ("draw", "either"):
                found += [(path, store) for store in range(self.never)]
            if part[0] == "while":
                found += [(path, store) for store in part[1]]
        return sorted(found)

    def moves(self, row):
        path, store = row
        part, rest = self.parts[path], self.todo_behind(path)
        if part[0] == "draw":
            return [[
                (self.run(rest, self.changed(store, part[1], value)), weight)
                for value, weight in zip(part[2], part[3])]]
        if part[0] == "either":
            return [[(self.run([path + (side,)] + rest, store), 1)] for side in (0, 1)]
        return [[(self.run([path + (0,), path] + rest, store), 1)]]


class PlainScene:
    """What can be met of a text from a store."""

    def __init__(self, space, text, store, plain=None):
        self.plain = plain or Plain(space, text)
        self.space = space
        self.never = self.plain.never
        self.place = self.plain.first(store)
        found = set() if is_end(self.place) else {self.place}
        while True:
            more = found | {
                place for row in found for move in self.plain.moves(row) for place, _ in move if not is_end(place)}
            if more == found:
                break
            found = more
        self.rows = sorted(found)
        self.moves = {row: self.plain.moves(row) for row in self.rows}
        self.eithers = [row for row in self.rows if self.plain.parts[row[0]][0] == "either"]

    def staying(self):
        """R, by leaving out rows without a move among the rest, one by one."""
        left = list(self.rows)
        while True:
            wrong = [row for row in left if not any(self.is_among(move, left) for move in self.moves[row])]
            if not wrong:
                return left
            left.remove(wrong[-1])

    @staticmethod
    def is_among(move, rows):
        return all(place in rows for place, _ in move)

    def turns(self):
        """The turns by their equation, from below."""
        staying = self.staying()
        turns = {row: 0 for row in self.rows if row not in staying}
        while True:
            better = {
                row: 1 + max(
                    min(0 if is_end(place) else turns[place] for place, _ in move if is_end(place) or place in turns)
                    for move in self.moves[row])
                for row in turns}
            if better == turns:
                return turns
            turns = better

    def picks(self):
        return list(product((0, 1), repeat=len(self.eithers)))

    def chances(self, dice):
        """For each row a dict of the chances of the places to which it leads by dice."""
        weights = dict(zip(self.eithers, dice))
        found = {}
        for row in self.rows:
            told = weights.get(row, (1,))
            found[row] = {}
            for move, share in zip(self.moves[row], told):
                for place, weight in move:
                    if share > 0:
                        chance = Fraction(share, sum(told)) * Fraction(weight, sum(more for _, more in move))
                        found[row][place] = found[row].get(place, 0) + chance
        return found

    @staticmethod
    def dice_of(pick):
        return [(1 - side, side) for side in pick]

    def reach(self, chances):
        """For each row the set of places to which one comes from it, by one move or more."""
        found = {row: set(places) for row, places in chances.items()}
        changed = True
        while changed:
            changed = False
            for row in found:
                more = found[row].union(*[found[place] for place in found[row] if not is_end(place)])
                changed = changed or more != found[row]
                found[row] = more
        return found

    def lots_by_dice(self, dice):
        """The lot of each row and each outcome if one goes by dice."""
        chances = self.chances(dice)
        reach = self.reach(chances)
        ending = [row for row in self.rows if any(is_end(place) for place in reach[row])]
        matrix = [[int(row == other) - chances[row].get(other, 0) for other in ending] for row in ending]
        given = [[chances[row].get(store, 0) for store in range(self.never)] for row in ending]
        shares = dict(zip(ending, solved(matrix, given)))
        lots = {store: tuple(int(at == store) for at in range(self.never + 1)) for store in range(self.never + 1)}
        for row in self.rows:
            told = shares.get(row, [Fraction(0)] * self.never)
            lots[row] = lot_of_shares(told + [1 - sum(told)])
        return lots

    def lot_by_dice(self, dice):
        return self.lots_by_dice(dice)[self.place]

    def lot_by(self, pick):
        return self.lot_by_dice(self.dice_of(pick))

    def passes_by_dice(self, dice):
        """The list of tuples (row, number or None), by what each row hands on."""
        chances = self.chances(dice)
        reach = self.reach(chances)
        passed = [row for row in self.rows if row == self.place or not is_end(self.place) and row in reach[self.place]]
        endless = [
            row for row in passed
            if all(not is_end(place) and row in reach[place] for place in reach[row])]
        left = [row for row in passed if row not in endless]
        matrix = [[int(row == other) - chances[other].get(row, 0) for other in left] for row in left]
        numbers = dict(zip(left, [one[0] for one in solved(matrix, [[int(row == self.place)] for row in left])]))
        return [(row, None if row in endless else numbers.get(row, Fraction(0))) for row in self.rows]

    def passes_by(self, pick):
        return self.passes_by_dice(self.dice_of(pick))

    def blended_lot(self, blend):
        return mix([self.lot_by(pick) for _, pick in blend], [weight for weight, _ in blend])

    def best(self, payoff, place=None):
        """The greatest mean over all picks."""
        place = self.place if place is None else place
        return max(mean_by(self.lots_by_dice(self.dice_of(pick))[place], payoff) for pick in self.picks())

    def mean_of(self, move, numbers):
        return sum(fraction(numbers[place]) * weight for place, weight in move) / sum(weight for _, weight in move)


class Drawn:
    """Texts and spaces as chance will have them."""

    def __init__(self, chance, sizes=None, weights=((1, 1), (1, 2), (3, 1), (2, 5))):
        self.chance = chance
        self.sizes = sizes
        self.weights = weights

    def space(self):
        return Space(self.sizes or self.chance.choice([[2], [3], [2, 2], [4], [2, 3], [5], [2, 2, 2], [7], [2, 4], [8]]))

    def stores(self, space, least=0):
        count = self.chance.randrange(least, len(space) + 1)
        kept = sorted(self.chance.sample(range(len(space)), count))
        return kept if self.chance.random() < 0.5 else tuple(kept)

    def text(self, space, deep, kinds="set draw then then if either while while"):
        chance = self.chance
        kind = chance.choice(kinds.split()) if deep > 0 else chance.choice(["skip", "set", "draw", "draw"])
        name = chance.randrange(len(space.sizes))
        values = range(space.sizes[name])
        if kind == "set":
            return ("set", name, [chance.choice(values) for _ in range(len(space))])
        if kind == "draw":
            return ("draw", name, tuple(sorted(chance.sample(values, 2))), chance.choice(self.weights))
        if kind == "skip":
            return SKIP
        inner = [self.text(space, deep - 1, kinds) for _ in range(2)]
        if kind == "if":
            return ("if", self.stores(space), *inner)
        if kind == "while":
            return ("while", self.stores(space, 1), inner[0])
        return (kind, *inner)

    def scene(self, deep, most_rows=24, most_eithers=3, least_rows=1, least_eithers=0):
        """A tuple (space, text, store, plain scene) within such bounds."""
        from endlots.texts import is_text
        while True:
            space = self.space()
            text = self.text(space, deep)
            if not is_text(space, text):
                continue
            store = self.chance.randrange(len(space))
            scene = PlainScene(space, text, store)
            if least_rows <= len(scene.rows) <= most_rows and least_eithers <= len(scene.eithers) <= most_eithers:
                return (space, text, store, scene)

    def both(self, deep, most_eithers=2, most_rows=24):
        """A tuple (space, text, other) of two texts within such bounds from each store."""
        from endlots.texts import is_text
        while True:
            space = self.space()
            texts = [self.text(space, deep) for _ in range(2)]
            if not all(is_text(space, text) for text in texts):
                continue
            scenes = [PlainScene(space, text, store) for text in texts for store in range(len(space))]
            if all(len(scene.eithers) <= most_eithers and len(scene.rows) <= most_rows for scene in scenes):
                return (space, *texts)


def is_number(value):
    return type(value) in (int, Ratio)


def is_listed(value, rows, length):
    """Whether a value is a list of tuples of so many items that begin with just these rows, in order."""
    if not isinstance(value, (list, tuple)) or len(value) != len(rows):
        return False
    return all(
        type(item) is tuple and len(item) == length and same_row(item[0], row) for item, row in zip(value, rows))


def same_row(value, row):
    if type(value) is not tuple or len(value) != 2 or type(value[0]) is not tuple or type(value[1]) is not int:
        return False
    return all(type(at) is int for at in value[0]) and value == row


def is_lot_value(value, count):
    if type(value) is not tuple or len(value) != count or not all(type(one) is int and one >= 0 for one in value):
        return False
    return gcd(*value) == 1


def is_payoff_value(value, count):
    return isinstance(value, (list, tuple)) and len(value) == count and all(type(one) is int for one in value)


def place_numbers(payoff, table):
    numbers = {outcome: Fraction(one) for outcome, one in enumerate(payoff)}
    numbers.update({row: fraction(number) for row, number in table})
    return numbers


def plain_is_table(scene, payoff, value):
    """By the words of [83]."""
    if not is_listed(value, scene.rows, 2) or not all(is_number(number) for _, number in value):
        return False
    numbers = place_numbers(payoff, value)
    for row in scene.rows:
        if any(numbers[row] < scene.mean_of(move, numbers) for move in scene.moves[row]):
            return False
    return all(numbers[row] >= payoff[scene.never] for row in scene.staying())


def plain_is_against(scene, lot, value):
    if type(value) is not tuple or len(value) != 2 or not is_payoff_value(value[0], scene.never + 1):
        return False
    payoff, table = value
    return plain_is_table(scene, payoff, table) and place_numbers(payoff, table)[scene.place] < mean_by(lot, payoff)


def plain_is_pick(scene, value):
    return type(value) is tuple and len(value) == len(scene.eithers) and all(
        type(side) is int and side in (0, 1) for side in value)


def plain_is_blend(scene, value):
    if not isinstance(value, (list, tuple)) or not value:
        return False
    for one in value:
        if type(one) is not tuple or len(one) != 2 or type(one[0]) is not int or one[0] < 1:
            return False
        if not plain_is_pick(scene, one[1]):
            return False
    return len({pick for _, pick in value}) == len(value)


def plain_is_brought(scene, lot, value):
    return plain_is_blend(scene, value) and scene.blended_lot(value) == lot


def plain_is_sides(scene, value):
    return is_listed(value, scene.eithers, 2) and all(type(side) is int and side in (0, 1) for _, side in value)
