"""Surroundings for the tests: drawn ones, and a plain way to what comes of runs in their holes."""

from endlots.hulls import corners
from endlots.texts import is_surrounding, is_text
from plain import Plain, PlainScene, fraction, inner_texts, is_end, is_listed, is_number

HOLE = ("hole",)


class PlainHoles(Plain):
    """A surrounding with the lots of a text in its holes."""

    def __init__(self, space, surrounding, lots):
        super().__init__(space, surrounding)
        self.lots = lots

    def moves(self, row):
        path, store = row
        if self.parts[path] != HOLE:
            return super().moves(row)
        rest = self.todo_behind(path)
        return [[
            (outcome if outcome == self.never else self.run(rest, outcome), weight)
            for outcome, weight in enumerate(lot) if weight] for lot in self.lots[store]]


def plain_ends(space, text):
    """The corners of what comes of a text from each store, by all picks gone by on their own."""
    scenes = [PlainScene(space, text, store) for store in range(len(space))]
    return [corners(sorted({scene.lot_by(pick) for pick in scene.picks()})) for scene in scenes]


def around(space, surrounding, text, store):
    """What can be met of a surrounding with a text in its holes."""
    return PlainScene(space, surrounding, store, PlainHoles(space, surrounding, plain_ends(space, text)))


def is_door(scene, row):
    return scene.plain.parts[row[0]] == HOLE


def leads_to_never(scene):
    return any(place == scene.never for row in scene.rows for move in scene.moves[row] for place, _ in move)


def filled_with(part, text):
    """A surrounding with the text in each hole, of whatever size."""
    if part == HOLE:
        return text
    return tuple(filled_with(item, text) if item in inner_texts(part) else item for item in part)


def drawn_surrounding(drawn, space, deep, text=None):
    """A surrounding of a space as chance will have it, with one to three holes."""
    while True:
        whole = drawn.text(space, deep) if text is None else text
        paths = [path for path, part in Plain(space, whole).parts.items() if not inner_texts(part)]
        for path in drawn.chance.sample(paths, min(len(paths), drawn.chance.randrange(1, 4))):
            whole = with_hole(whole, path)
        if is_surrounding(space, whole) and not is_text(space, whole):
            return whole
        text = None


def with_hole(part, path):
    if not path:
        return HOLE
    at = [index for index, item in enumerate(part) if isinstance(item, tuple) and item and isinstance(item[0], str)][path[0]]
    return part[:at] + (with_hole(part[at], path[1:]),) + part[at + 1:]


def plain_is_runs(scene, value):
    """By the words of [155]."""
    if type(value) is not tuple or len(value) != 4 or not is_number(value[0]) or leads_to_never(scene):
        return False
    number, runs, moves, falling = value
    for listed in (runs, falling):
        if not is_listed(listed, scene.rows, 2) or not all(is_number(one) for _, one in listed):
            return False
    if not is_listed(moves, scene.rows, 2) or not all(type(at) is int for _, at in moves):
        return False
    numbers = {store: 0 for store in range(scene.never)} | {row: fraction(one) for row, one in runs}
    times = {store: 0 for store in range(scene.never)} | {row: fraction(one) for row, one in falling}
    for row, at in moves:
        more = 1 if is_door(scene, row) else 0
        means = [scene.mean_of(move, numbers) + more for move in scene.moves[row]]
        if max(means) != numbers[row] or not 0 <= at < len(means) or means[at] != numbers[row]:
            return False
        if any(times[row] < 1 + scene.mean_of(move, times) for move in scene.moves[row]):
            return False
    return fraction(number) == (0 if is_end(scene.place) else numbers[scene.place])
