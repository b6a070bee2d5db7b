"""Normal tables, sides of a text that are needless, and steps that put a text in other words."""

from endlots.branches import lots_by_picks
from endlots.forward import corner_lists_of, every_brought
from endlots.picks import all_picks
from endlots.places import MOST_EITHERS, all_scenes, need_few_eithers
from endlots.spaces import need_space
from endlots.texts import children, followed_down, in_tuples, is_text, listed_parts, need_text, replaced


def normal(space, text):
    """The list of the corners of what can be brought with the text from each store."""
    return corner_lists_of(every_brought(need_few(space, text)))


def needless(space, text):
    """The ascending list of the sides without which the text is alike."""
    return needless_sides(text, need_few(space, text))


def struck(space, text):
    """What is left of the text if it is replaced, again and again, by itself without its least needless side."""
    scenes = need_few(space, text)
    left = in_tuples(text)
    while True:
        sides = needless_sides(left, scenes)
        if sides == []:
            return left
        path, side = sides[0]
        left = replaced(left, path, followed_down(left, path + (1 - side,)))
        scenes = all_scenes(space, left)


def forward_steps(space, text):
    """The list of the tuples (path, rule, new) of all steps that put the text in other words."""
    need_space(space)
    need_text(space, text)
    whole = in_tuples(text)
    found = []
    for path, part in listed_parts(whole, ()):
        for rule in RULES:
            change = RULES[rule]
            new = change(space, part)
            if new is not None and is_text(space, replaced(whole, path, new)):
                found.append((path, rule, replaced(whole, path, new)))
    return found


def need_few(space, text):
    """What can be met of the text from each store; errors are raised for wrong arguments and TooMany behind them."""
    need_space(space)
    need_text(space, text)
    scenes = all_scenes(space, text)
    need_few_eithers(scenes, MOST_EITHERS)
    return scenes


def needless_sides(text, scenes):
    """The ascending list of the needless sides of a text of which the scenes are met."""
    told = [list(zip(all_picks(scene), lots)) for scene, lots in zip(scenes, lots_by_picks(scenes))]
    tables = corner_lists_of([sorted(set([lot for _, lot in picks])) for picks in told])
    paths = [path for path, part in listed_parts(text, ()) if part[0] == "either"]
    found = []
    for path in paths:
        for side in (0, 1):
            if all([are_left(scene, picks, table, path, side) for scene, picks, table in zip(scenes, told, tables)]):
                found.append((path, side))
    return found


def are_left(scene, picks, table, path, side):
    """Tell whether the corners in a table are lots of such picks as never take the side of the either with the path.

    What these picks bring is what the text without this side can bring.
    """
    ats = [at for at, row in enumerate(scene.eithers) if row[0] == path]
    left = {lot: True for pick, lot in picks if all([pick[at] != side for at in ats])}
    return all([lot in left for lot in table])


def exchanged(space, part):
    """What becomes of a part by the rule exchange, or None."""
    if part[0] != "either":
        return None
    return ("either", part[2], part[1])


def same_taken(space, part):
    """What becomes of a part by the rule same, or None."""
    if part[0] != "either" and part[0] != "if":
        return None
    left, right = children(part)
    return left if left == right else None


def skip_left_out(space, part):
    """What becomes of a part by the rule skip, or None."""
    if part[0] != "then":
        return None
    if part[1] == ("skip",):
        return part[2]
    return part[1] if part[2] == ("skip",) else None


def grouped(space, part):
    """What becomes of a part by the rule group, or None."""
    kind = part[0]
    if kind != "then" and kind != "either":
        return None
    if part[1][0] != kind:
        return None
    return (kind, part[1][1], (kind, part[1][2], part[2]))


def spread(space, part):
    """What becomes of a part by the rule spread, or None."""
    if part[0] != "then":
        return None
    inner = part[1]
    if inner[0] == "either":
        return ("either", ("then", inner[1], part[2]), ("then", inner[2], part[2]))
    if inner[0] == "if":
        return ("if", inner[1], ("then", inner[2], part[2]), ("then", inner[3], part[2]))
    return None


def set_at_once(space, part):
    """What becomes of a part by the rule set, or None."""
    if part[0] != "then" or part[1][0] != "set" or part[2][0] != "set" or part[1][1] != part[2][1]:
        return None
    _, name, values = part[1]
    others = part[2][2]
    both = []
    for store, value in enumerate(values):
        inner = list(space.at(store))
        inner[name] = value
        both.append(others[space.store(inner)])
    return ("set", name, tuple(both))


def unrolled(space, part):
    """What becomes of a part by the rule unroll, or None."""
    if part[0] != "while":
        return None
    return ("if", part[1], ("then", part[2], part), ("skip",))


# In the order in which the steps of one path stand.
RULES = {
    "exchange": exchanged,
    "same": same_taken,
    "skip": skip_left_out,
    "group": grouped,
    "spread": spread,
    "set": set_at_once,
    "unroll": unrolled,
}
