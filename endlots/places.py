"""Places: the rows of a text, where each of their moves leads, and what can be met from a store."""

from endlots.errors import InvalidStore, TooMany
from endlots.shapes import is_ascending, is_index, is_integer, is_list
from endlots.spaces import need_space
from endlots.texts import children, in_tuples, listed_parts, need_text

MOST_ROWS = 64
MOST_EITHERS = 6


class Places:
    """A text of a space, or a surrounding with the lots of runs in its holes, by the paths of its parts."""

    def __init__(self, space, text, run_lots=()):
        self.space = space
        self.run_lots = run_lots
        self.by_path = {path: part for path, part in listed_parts(in_tuples(text), ())}
        self.known_moves = {}

    def kind_at(self, row):
        """The kind of the part to which a row belongs."""
        return self.by_path[row[0]][0]

    def is_row(self, value):
        """Tell whether any value is a row of the text."""
        if not is_row_shape(value) or value[0] not in self.by_path:
            return False
        path, store = value
        return is_index(store, self.space.never) and is_row_of(self.by_path[path], store)

    def first_from(self, store):
        """The place to which the text comes first from a store."""
        return self.place_from((), store)

    def place_from(self, path, store):
        """The place that is come to if the part with the path begins in the store; None has ended the text."""
        while path is not None:
            part = self.by_path[path]
            if is_row_of(part, store):
                return (path, store)
            if part[0] == "then":
                path = path + (0,)
            elif part[0] == "if":
                path = path + (int(store not in part[1]),)
            else:
                if part[0] == "set":
                    store = self.changed(store, part[1], part[2][store])
                path = self.path_behind(path)
        return store

    def path_behind(self, path):
        """The path of the part that begins when the one with the path is done; None if the text is done, too."""
        while path != ():
            outer = path[:-1]
            kind = self.by_path[outer][0]
            if kind == "while":
                return outer
            if kind == "then" and path[-1] == 0:
                return outer + (1,)
            path = outer
        return None

    def changed(self, store, name, value):
        """The store in which the name has the value, and the other names what they have in a store."""
        values = list(self.space.at(store))
        values[name] = value
        return self.space.store(values)

    def moves_of(self, row):
        """The moves of a row, each a list of tuples (place, weight)."""
        if row not in self.known_moves:
            self.known_moves[row] = self.moves_found(row)
        return self.known_moves[row]

    def moves_found(self, row):
        """The moves of a row, worked out by the text."""
        path, store = row
        part = self.by_path[path]
        if part[0] == "hole":
            return [self.run_move(lot, self.path_behind(path)) for lot in self.run_lots[store]]
        if part[0] != "draw":
            return [[(self.place_from(path + (at,), store), 1)] for at in range(len(children(part)))]
        behind = self.path_behind(path)
        stores = [self.changed(store, part[1], value) for value in part[2]]
        return [[(self.place_from(behind, drawn), weight) for drawn, weight in zip(stores, part[3])]]

    def run_move(self, lot, behind):
        """The move of a run that brings a lot, if the part with a path is what begins behind it."""
        found = []
        for outcome, weight in enumerate(lot):
            if weight > 0:
                place = outcome if outcome == self.space.never else self.place_from(behind, outcome)
                found.append((place, weight))
        return found


class Scene:
    """What can be met of a text, told by its places, from a store: the first place, the rows in order, their moves."""

    def __init__(self, places, store):
        self.places = places
        self.space = places.space
        self.never = places.space.never
        self.place = places.first_from(store)
        met_moves = moves_met(places, self.place)
        self.rows = sorted(met_moves)
        self.moves = {row: met_moves[row] for row in self.rows}
        self.eithers = [row for row in self.rows if places.kind_at(row) == "either"]


def moves_met(places, place):
    """The moves of each row that can be met from a place."""
    found = {}
    waiting = [place]
    while waiting != []:
        row = waiting.pop()
        if not is_integer(row) and row not in found:
            found[row] = places.moves_of(row)
            waiting = waiting + places_of(found[row])
    return found


def places_of(moves):
    """The list of the places to which moves lead."""
    return [place for move in moves for place, _ in move]


def is_row_of(part, store):
    """Tell whether a part has a row with a store."""
    if part[0] == "while":
        return store in part[1]
    return part[0] in ("draw", "either", "hole")


def is_row_shape(value):
    """Tell whether any value is made as a row is: a tuple of a tuple of integers and an integer."""
    if not isinstance(value, tuple) or len(value) != 2 or not isinstance(value[0], tuple):
        return False
    return is_integer(value[1]) and all([is_integer(at) for at in value[0]])


def is_row_tuple(value, length):
    """Tell whether any value is a tuple of so many items that begins with what is made as a row is."""
    return isinstance(value, tuple) and len(value) == length and is_row_shape(value[0])


def is_by_rows(value, rows, length):
    """Tell whether any value is a list of tuples of so many items that begin with just these rows, in order."""
    if not is_list(value) or not all([is_row_tuple(item, length) for item in value]):
        return False
    return [item[0] for item in value] == rows


def is_rows_met(scene, value):
    """Tell whether any value is a set of rows that can be met."""
    return is_list(value) and all([is_row_met(scene, row) for row in value]) and is_ascending(value)


def is_row_met(scene, value):
    """Tell whether any value is a row that can be met."""
    return is_row_shape(value) and value in scene.moves


def turns_of(scene, barred=()):
    """The turn of each row that has one; rows at which one may stay have none, barred rows count as ends."""
    turns = {row: 0 for row in barred}
    turn = 0
    while True:
        turn = turn + 1
        found = [row for row in scene.rows if row not in turns and all_turn(scene.moves[row], turns)]
        if found == []:
            return turns
        for row in found:
            turns[row] = turn


def all_turn(moves, turns):
    """Tell whether each of the moves has an end or a row with a turn among its places."""
    return all([any([is_integer(place) or place in turns for place, _ in move]) for move in moves])


def staying_moves(scene, barred=()):
    """For each row at which one may stay, barred rows left out, the indices of its moves to such rows alone."""
    turns = turns_of(scene, barred)
    staying = [row for row in scene.rows if row not in turns]
    found = {}
    for row in staying:
        moves = scene.moves[row]
        found[row] = [at for at, move in enumerate(moves) if leads_among(move, staying)]
    return found


def leads_among(move, rows):
    """Tell whether a move leads to some of the rows alone."""
    return all([place in rows for place, _ in move])


def need_places(space, text):
    """The places of a text; InvalidSpace and InvalidText are raised for wrong arguments."""
    need_space(space)
    need_text(space, text)
    return Places(space, text)


def need_store(space, store):
    """Raise InvalidStore for any value that is no store of the space."""
    if not is_index(store, space.never):
        raise InvalidStore(store)


def need_scene(space, text, store):
    """What can be met of a text from a store; the errors of the three arguments are raised in their order."""
    need_space(space)
    need_text(space, text)
    need_store(space, store)
    return Scene(Places(space, text), store)


def need_small_scene(space, text, store, most_eithers=None):
    """What can be met of a text from a store; TooMany is raised behind the other errors, for either rows if told."""
    scene = need_scene(space, text, store)
    if most_eithers is None:
        need_few_rows([scene])
    else:
        need_few_eithers([scene], most_eithers)
    return scene


def all_scenes(space, text):
    """What can be met of a text from each store, in order."""
    places = Places(space, text)
    return [Scene(places, store) for store in range(space.never)]


def need_few_rows(scenes):
    """Raise TooMany with the greatest number of rows met in the scenes if it is above the bound."""
    count = max([len(scene.rows) for scene in scenes])
    if count > MOST_ROWS:
        raise TooMany(count)


def need_few_eithers(scenes, most):
    """Raise TooMany as need_few_rows does, and then with the greatest number of either rows met if it is above most."""
    need_few_rows(scenes)
    count = max([len(scene.eithers) for scene in scenes])
    if count > most:
        raise TooMany(count)
