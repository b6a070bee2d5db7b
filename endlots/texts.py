"""Texts and surroundings: what they are, their parts, and how they are put together."""

from math import gcd

from endlots.errors import InvalidPart, InvalidPath, InvalidSurrounding, InvalidText, TooMany
from endlots.shapes import is_from, is_index, is_list, is_set_below
from endlots.spaces import Space, need_space

MOST_SIZE = 24
MOST_DEPTH = 4
MOST_HOLES = 3
MOST_WEIGHT = 1000000

LENGTHS = {"skip": 1, "hole": 1, "set": 3, "draw": 4, "then": 3, "if": 4, "either": 3, "while": 3}

# Where in a tuple of each kind its parts begin; they go on to its end.
PARTS_FROM = {"skip": 1, "hole": 1, "set": 3, "draw": 4, "then": 1, "if": 2, "either": 1, "while": 2}

ALL_SIZES = (
    (2,), (3,), (4,), (5,), (6,), (7,), (8,), (2, 2), (2, 3), (3, 2), (2, 4), (4, 2), (2, 2, 2),
)


def is_text(space, value):
    """Tell whether any value is a text of the space."""
    need_space(space)
    return holes_of(space, value) == 0


def is_surrounding(space, value):
    """Tell whether any value is a surrounding of the space."""
    need_space(space)
    return is_hole_count(holes_of(space, value))


def is_straight(surrounding):
    """Tell whether no hole of a surrounding is a part of a while."""
    if not any([is_hole_count(holes_of(Space(sizes), surrounding)) for sizes in ALL_SIZES]):
        raise InvalidSurrounding(surrounding)
    loops = [part for _, part in listed_parts(surrounding, ()) if part[0] == "while"]
    return not any([has_hole(loop) for loop in loops])


def parts(text):
    """The list of the tuples (path, part) of all parts, in ascending order of paths."""
    need_any_text(text)
    return listed_parts(in_tuples(text), ())


def part_at(text, path):
    """The part with a path."""
    need_any_text(text)
    if not is_path(text, path):
        raise InvalidPath(path)
    return in_tuples(followed_down(text, path))


def size(text):
    """The number of parts other than then."""
    need_any_text(text)
    return size_of(text)


def depth(text):
    """The greatest number of while parts of which each further one is a part of the one before it."""
    need_any_text(text)
    return depth_of(text)


def put_at(space, text, path, part):
    """The text of the space with another text of it in the place of its part with the path."""
    need_space(space)
    need_text(space, text)
    if not is_path(text, path):
        raise InvalidPath(path)
    if not is_text(space, part):
        raise InvalidPart(part)
    return within_bounds(replaced(in_tuples(text), path, in_tuples(part)))


def fill(space, surrounding, text):
    """The text that the surrounding becomes with the text in the place of each hole."""
    need_space(space)
    if not is_surrounding(space, surrounding):
        raise InvalidSurrounding(surrounding)
    need_text(space, text)
    return within_bounds(filled(in_tuples(surrounding), in_tuples(text)))


def need_text(space, text):
    """Raise InvalidText for any value that is no text of the space."""
    if not is_text(space, text):
        raise InvalidText(text)


def need_any_text(text):
    """Raise InvalidText for any value that is neither a text nor a surrounding of any one space."""
    if not any([is_text_or_surrounding(Space(sizes), text) for sizes in ALL_SIZES]):
        raise InvalidText(text)


def is_text_or_surrounding(space, value):
    """Tell whether any value is a text or a surrounding of the space."""
    holes = holes_of(space, value)
    return holes == 0 or is_hole_count(holes)


def is_hole_count(holes):
    """Tell whether so many holes, or None, are those of a surrounding."""
    return is_from(holes, 1, MOST_HOLES)


def has_hole(part):
    """Tell whether a hole is a part of a part."""
    return part[0] == "hole" or any([has_hole(child) for child in children(part)])


def holes_of(space, value):
    """The number of holes of what is made as a text of the space is, within its bounds; None for any other value."""
    holes = 0
    parts_seen = 0
    waiting = [(value, 0)]
    # The bounds are asked for on the way: a small value may have endlessly many parts, if tuples in it are shared.
    while waiting != []:
        part, outer = waiting.pop()
        if not is_part(space, part):
            return None
        kind = part[0]
        parts_seen = parts_seen + int(kind != "then")
        holes = holes + int(kind == "hole")
        inner = outer + int(kind == "while")
        if parts_seen > MOST_SIZE or inner > MOST_DEPTH:
            return None
        waiting = waiting + [(child, inner) for child in children(part)]
    return holes


def is_part(space, value):
    """Tell whether any value is made as a part is, whatever stands in it in the place of parts."""
    if not isinstance(value, tuple) or len(value) == 0 or not isinstance(value[0], str):
        return False
    kind = value[0]
    if LENGTHS.get(kind, 0) != len(value):
        return False
    if kind == "set":
        return is_setting(space, value[1], value[2])
    if kind == "draw":
        return is_name(space, value[1]) and is_pair(space, value[1], value[2]) and is_weighing(value[3])
    if kind == "if" or kind == "while":
        return is_set_below(value[1], space.never)
    return True


def is_name(space, value):
    """Tell whether any value is the index of a name of the space."""
    return is_index(value, len(space.sizes))


def is_setting(space, name, values):
    """Tell whether any two values are a name and a list of values of this name, one for each store."""
    if not is_name(space, name) or not is_list(values) or len(values) != space.never:
        return False
    return all([is_index(value, space.sizes[name]) for value in values])


def is_pair(space, name, value):
    """Tell whether any value is a tuple of two ascending values of a name."""
    if not isinstance(value, tuple) or len(value) != 2:
        return False
    return is_set_below(value, space.sizes[name])


def is_weighing(value):
    """Tell whether any value is a tuple of two weights of a draw."""
    if not isinstance(value, tuple) or len(value) != 2:
        return False
    return all([is_from(weight, 1, MOST_WEIGHT) for weight in value]) and gcd(value[0], value[1]) == 1


def children(part):
    """The parts that stand in a part itself, as a tuple."""
    return part[PARTS_FROM[part[0]]:]


def in_tuples(value):
    """A text, or what stands in one, with a tuple in the place of each list."""
    if is_list(value):
        return tuple([in_tuples(item) for item in value])
    return value


def listed_parts(part, path):
    """The list of the tuples (path, part) of all parts of a part that has the path."""
    found = [(path, part)]
    for at, child in enumerate(children(part)):
        found = found + listed_parts(child, path + (at,))
    return found


def is_path(text, value):
    """Tell whether any value is the path of a part of the text."""
    if not isinstance(value, tuple):
        return False
    part = text
    for at in value:
        if not is_index(at, len(children(part))):
            return False
        part = children(part)[at]
    return True


def followed_down(text, path):
    """The part of a text to which its path leads."""
    part = text
    for at in path:
        part = children(part)[at]
    return part


def size_of(text):
    """The number of parts other than then of a text or a surrounding."""
    return sum([int(part[0] != "then") for _, part in listed_parts(text, ())])


def depth_of(part):
    """The depth of a part of a text or a surrounding."""
    inner = max([0] + [depth_of(child) for child in children(part)])
    return inner + int(part[0] == "while")


def replaced(whole, path, part):
    """The whole with another part in the place of its part with the path."""
    if path == ():
        return part
    at = PARTS_FROM[whole[0]] + path[0]
    return whole[:at] + (replaced(whole[at], path[1:], part),) + whole[at + 1:]


def filled(surrounding, text):
    """The surrounding with the text in the place of each hole, whatever size and depth that makes."""
    if surrounding[0] == "hole":
        return text
    at = PARTS_FROM[surrounding[0]]
    return surrounding[:at] + tuple([filled(child, text) for child in surrounding[at:]])


def within_bounds(text):
    """The text itself; TooMany is raised if its size or its depth is above the bound."""
    if size_of(text) > MOST_SIZE:
        raise TooMany(size_of(text))
    if depth_of(text) > MOST_DEPTH:
        raise TooMany(depth_of(text))
    return text
