"""Lines of texts and surroundings, there and back."""

from endlots.errors import InvalidLine
from endlots.shapes import is_digits
from endlots.spaces import need_space
from endlots.texts import MOST_WEIGHT, is_surrounding, is_text, need_any_text

# No text has brackets nested as deep as this; what has is not read any further.
MOST_BRACKETS = 60


def line_of(text):
    """The line of a text or a surrounding."""
    need_any_text(text)
    return line_made(text)


def read_text(space, line):
    """The text of the space with this line."""
    need_space(space)
    text = guessed(line)
    if not is_text(space, text) or line_made(text) != line:
        raise InvalidLine(line)
    return text


def read_surrounding(space, line):
    """The surrounding of the space with this line."""
    need_space(space)
    surrounding = guessed(line)
    if not is_surrounding(space, surrounding) or line_made(surrounding) != line:
        raise InvalidLine(line)
    return surrounding


def line_made(part):
    """The line of a part."""
    kind = part[0]
    if kind == "set":
        return f"set {part[1]} to {integers_made(part[2])}"
    if kind == "draw":
        return f"draw {part[1]} from {integers_made(part[2])} by {integers_made(part[3])}"
    if kind == "then":
        return f"({line_made(part[1])} then {line_made(part[2])})"
    if kind == "if":
        return f"(if {integers_made(part[1])} do {line_made(part[2])} else {line_made(part[3])})"
    if kind == "either":
        return f"(either {line_made(part[1])} or {line_made(part[2])})"
    if kind == "while":
        return f"(while {integers_made(part[1])} do {line_made(part[2])})"
    return kind


def integers_made(integers):
    """Integers in decimal notation with a comma between each two, or none."""
    if len(integers) == 0:
        return "none"
    return ",".join([str(integer) for integer in integers])


class Words:
    """The words of a line, brackets among them, which are taken one by one."""

    def __init__(self, line):
        self.words = line.replace("(", "( ").replace(")", " )").split(" ")
        self.taken_words = 0

    def ahead(self):
        """The next word, or an empty one if there is none."""
        if self.taken_words < len(self.words):
            return self.words[self.taken_words]
        return ""

    def take(self):
        """The next word, which is then taken."""
        word = self.ahead()
        self.taken_words += 1
        return word


def guessed(line):
    """The only value that can be the text or the surrounding with a line.

    Words between the parts are passed over unread: whoever asks compares the line of the value with this line, by
    which every sign is told.
    """
    if not isinstance(line, str):
        return None
    return guessed_part(Words(line), 0)


def guessed_part(words, brackets):
    """The only value that can be the part of which the next words are, within so many brackets."""
    word = words.take()
    if word == "(":
        if brackets == MOST_BRACKETS:
            return None
        return guessed_bracket(words, brackets + 1)
    if word == "set":
        name, values = guessed_arguments(words, 2)
        return ("set", name, values)
    if word == "draw":
        name, pair, weights = guessed_arguments(words, 3)
        return ("draw", name, pair, weights)
    return (word,)


def guessed_arguments(words, count):
    """A list of the name and the tuples of integers, so many together, that the next words can be."""
    found = [guessed_integer(words.take())]
    while len(found) < count:
        words.take()
        found = found + [guessed_integers(words.take())]
    return found


def guessed_bracket(words, brackets):
    """The only value that can be the part in a bracket that has just been opened."""
    kind = "then"
    stores = ()
    if words.ahead() in ("if", "either", "while"):
        kind = words.take()
    if kind == "if" or kind == "while":
        stores = (guessed_integers(words.take()),)
        words.take()
    inner = (guessed_part(words, brackets),)
    words.take()
    if kind != "while":
        inner = inner + (guessed_part(words, brackets),)
        words.take()
    return (kind,) + stores + inner


def guessed_integers(word):
    """The only tuple of integers that a word can be."""
    if word == "none":
        return ()
    return tuple([guessed_integer(digits) for digits in word.split(",")])


def guessed_integer(word):
    """The only integer that a word can be, or None if a text has none such."""
    if is_digits(word) and len(word) <= len(str(MOST_WEIGHT)):
        return int(word)
    return None
