"""Courses: following a text by answers, and where choosers lead it behind so many of them."""

from endlots.errors import InvalidDraws, InvalidShare, InvalidSides, InvalidSteps
from endlots.places import need_places, need_store
from endlots.ratios import Ratio, as_ratio, is_number
from endlots.shapes import is_from, is_index, is_integer, is_list

MOST_STEPS = 8


def followed(space, text, store, sides, draws):
    """Where the text comes to by the answers: an end, a row that asks for one more, or the rows of a round."""
    places = need_places(space, text)
    need_store(space, store)
    if not is_answers(sides):
        raise InvalidSides(sides)
    if not is_answers(draws):
        raise InvalidDraws(draws)
    left = {"either": list(reversed(sides)), "draw": list(reversed(draws))}
    course = asked(places, places.first_from(store))
    while course[0] == "asks" and left[places.kind_at(course[1])] != []:
        answer = left[places.kind_at(course[1])].pop()
        course = asked(places, answered(places, course[1], answer))
    return course


def behind(space, text, store, chooser, steps):
    """The list of the tuples (place, share) of the places where the text is behind so many answers."""
    places = need_places(space, text)
    need_store(space, store)
    if not is_from(steps, 0, MOST_STEPS):
        raise InvalidSteps(steps)
    courses = [([], Ratio(1), place_asked(places, places.first_from(store)))]
    for _ in range(steps):
        courses = [longer for course in courses for longer in one_more(places, chooser, course)]
    shares = {}
    for _, share, place in courses:
        shares[place] = shares.get(place, 0) + share
    outcomes = sorted([place for place in shares if is_integer(place)])
    rows = sorted([place for place in shares if not is_integer(place)])
    return [(place, shares[place]) for place in outcomes + rows]


def is_answers(value):
    """Tell whether any value is a list of integers 0 and 1."""
    return is_list(value) and all([is_index(item, 2) for item in value])


def asked(places, place):
    """What a text comes to from a place before a row asks, as followed tells it."""
    passed = []
    while not is_integer(place):
        if places.kind_at(place) != "while":
            return ("asks", place)
        if place in passed:
            return ("never", passed[passed.index(place):])
        passed.append(place)
        place = answered(places, place, 0)
    return ("end", place)


def place_asked(places, place):
    """The outcome or the row that asks to which a text comes from a place."""
    kind, found = asked(places, place)
    if kind == "never":
        return places.space.never
    return found


def answered(places, row, answer):
    """The place to which the answer leads from a row; at a row of a while only 0 does."""
    return [place for move in places.moves_of(row) for place, _ in move][answer]


def one_more(places, chooser, course):
    """The courses (history, share, place) that a course becomes by one more answer, if a row asks for it."""
    history, share, place = course
    if is_integer(place):
        return [course]
    found = []
    for answer, part in enumerate(answer_shares(places, chooser, history, place)):
        if part != 0:
            longer = history + [(place, answer)]
            found.append((longer, share * part, place_asked(places, answered(places, place, answer))))
    return found


def answer_shares(places, chooser, history, row):
    """The shares of the two answers to a row that asks; an either row asks the chooser."""
    if places.kind_at(row) == "draw":
        weights = [weight for _, weight in places.moves_of(row)[0]]
        return [Ratio(weight, sum(weights)) for weight in weights]
    # The chooser may do with its list what it likes.
    right = chooser(list(history), row)
    if not is_share(right):
        raise InvalidShare(right)
    return [1 - as_ratio(right), as_ratio(right)]


def is_share(value):
    """Tell whether any value is a number from 0 to 1."""
    return is_number(value) and 0 <= as_ratio(value).top <= as_ratio(value).bottom
