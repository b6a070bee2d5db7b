"""Benches: texts of one space under names, and facts about which of them stands for which."""

from endlots.backward import best
from endlots.errors import (
    InvalidLine, InvalidName, InvalidOther, NoThing, NothingToRedo, NothingToUndo, TooMany,
)
from endlots.forward import ends
from endlots.lines import line_of, read_text
from endlots.nearly import lead
from endlots.shapes import is_list
from endlots.spaces import need_space
from endlots.standing import is_paper_for, stands_for
from endlots.texts import in_tuples, need_text, part_at, put_at
from endlots.times import always_ends

MOST_NAMES = 8
MOST_SIGNS = 12
MOST_DEEDS = 64

LETTERS = "abcdefghijklmnopqrstuvwxyz"
DIGITS = "0123456789"


class Bench:
    """Texts of a space under names, with the facts that are kept, and the deeds that can be taken back."""

    def __init__(self, space):
        need_space(space)
        self.space = space
        self._texts = {}
        self._kept = {}
        self._before = []
        self._behind = []

    def __len__(self):
        return len(self._texts)

    def __contains__(self, name):
        return isinstance(name, str) and name in self._texts

    def __eq__(self, other):
        if not isinstance(other, Bench):
            return False
        return self.space == other.space and self._texts == other._texts and self._kept == other._kept

    def names(self):
        """The ascending list of the names."""
        return sorted(self._texts)

    def take(self, name):
        """The text of a name."""
        self.need_name(name)
        return self._texts[name]

    def put(self, name, text):
        """Give a name a text."""
        if not is_name(name):
            raise InvalidName(name)
        need_text(self.space, text)
        if name not in self._texts and len(self._texts) == MOST_NAMES:
            raise TooMany(MOST_NAMES + 1)
        self.give(name, in_tuples(text))

    def drop(self, name):
        """Take a name and its text away."""
        self.need_name(name)
        texts = {known: self._texts[known] for known in self._texts if known != name}
        self.change(texts, without(self._kept, name))

    def rename(self, name, new):
        """Put the text of a name under a new one, with the facts of the name."""
        self.need_name(name)
        if not is_name(new) or new in self._texts:
            raise InvalidName(new)
        texts = {(new if known == name else known): self._texts[known] for known in self._texts}
        kept = [[new if known == name else known for known in fact] for fact in self._kept]
        self.change(texts, {(one, other): True for one, other in kept})

    def edit(self, name, path, part):
        """Give a name its text with another part in the place of the one with the path."""
        self.need_name(name)
        self.give(name, put_at(self.space, self._texts[name], path, part))

    def refine(self, name, path, part):
        """Edit the text of a name if the new part stands for the old one; tell whether it does."""
        self.need_name(name)
        text = put_at(self.space, self._texts[name], path, part)
        old = part_at(self._texts[name], path)
        if not stands_for(self.space, part, old):
            return False
        kept = {fact: True for fact in self._kept}
        if not stands_for(self.space, old, part):
            kept = {fact: True for fact in self._kept if fact[1] != name}
        self.change(with_item(self._texts, name, text), kept)
        return True

    def claim(self, name, other, *, paper=None):
        """Tell whether the text of a name stands for that of another one, or whether a paper says so; keep the fact."""
        self.need_name(name)
        self.need_name(other)
        if name == other:
            raise InvalidOther(other)
        if paper is None:
            holds = stands_for(self.space, self._texts[name], self._texts[other])
        else:
            holds = is_paper_for(self.space, self._texts[name], self._texts[other], paper) and paper[0] == "yes"
        if holds:
            self.change(self._texts, with_item(self._kept, (name, other), True))
        return holds

    def facts(self):
        """The ascending list of the kept facts."""
        return sorted(self._kept)

    def chain(self, name, other):
        """The first one of the shortest lists of names that lead by kept facts from one name to the other, or None."""
        self.need_name(name)
        self.need_name(other)
        steps = self.steps_to(other)
        if name not in steps:
            return None
        found = [name]
        while found[-1] != other:
            left = steps[found[-1]] - 1
            near = [to for one, to in self.facts() if one == found[-1] and steps.get(to, None) == left]
            found = found + [near[0]]
        return found

    def undo(self):
        """Take the last deed back."""
        if self._before == []:
            raise NothingToUndo()
        self._behind.append((self._texts, self._kept))
        self._texts, self._kept = self._before.pop()

    def redo(self):
        """Do again what was taken back last."""
        if self._behind == []:
            raise NothingToRedo()
        self._before.append((self._texts, self._kept))
        self._texts, self._kept = self._behind.pop()

    def ends(self, name, store):
        """What ends tells of the text of a name."""
        return ends(self.space, self.take(name), store)

    def best(self, name, store, payoff):
        """What best tells of the text of a name."""
        return best(self.space, self.take(name), store, payoff)

    def always_ends(self, name, store):
        """What always_ends tells of the text of a name."""
        return always_ends(self.space, self.take(name), store)

    def lead(self, name, other):
        """What lead tells of the texts of two names."""
        self.need_name(name)
        self.need_name(other)
        return lead(self.space, self._texts[name], self._texts[other])

    def lines(self):
        """The list of the lines of the texts and of the kept facts."""
        texts = [f"{name}: {line_of(self._texts[name])}" for name in self.names()]
        return texts + [f"{name} > {other}" for name, other in self.facts()]

    def need_name(self, name):
        """Raise NoThing for any value that is no name of the bench."""
        if not isinstance(name, str) or name not in self._texts:
            raise NoThing(name)

    def give(self, name, text):
        """Give a name a text in tuples throughout; facts with the name are let go if it had another one."""
        if name not in self._texts or self._texts[name] != text:
            self.change(with_item(self._texts, name, text), without(self._kept, name))

    def change(self, texts, kept):
        """Have other texts and facts from now on; it is a deed if one of both differs from what there was."""
        if texts == self._texts and kept == self._kept:
            return
        self._before.append((self._texts, self._kept))
        self._before = self._before[-MOST_DEEDS:]
        self._behind = []
        self._texts = texts
        self._kept = kept

    def hold(self, texts, kept):
        """Have texts and facts without a deed that could be taken back."""
        self._texts = texts
        self._kept = kept

    def steps_to(self, name):
        """For each name from which kept facts lead to a name the least number of these facts."""
        steps = {name: 0}
        found = [name]
        many = 0
        while found != []:
            many = many + 1
            found = sorted(set([one for one, to in self._kept if to in found and one not in steps]))
            for one in found:
                steps[one] = many
        return steps


def read_bench(space, lines):
    """The bench with these lines, with nothing to undo or to redo."""
    bench = Bench(space)
    if not is_list(lines):
        raise InvalidLine(lines)
    texts = {}
    kept = {}
    for line in lines:
        if not isinstance(line, str):
            raise InvalidLine(line)
        name, sign, rest = line.partition(": ")
        if sign != "":
            if kept != {} or not is_next_name(texts, name):
                raise InvalidLine(line)
            texts[name] = text_read(space, line, rest)
        else:
            fact = fact_read(texts, kept, line)
            if not stands_for(space, texts[fact[0]], texts[fact[1]]):
                raise InvalidLine(line)
            kept[fact] = True
    bench.hold(texts, kept)
    return bench


def is_next_name(texts, name):
    """Tell whether a string is a name that may stand behind those that have texts."""
    if not is_name(name) or len(texts) == MOST_NAMES:
        return False
    return texts == {} or max(list(texts)) < name


def text_read(space, line, rest):
    """The text whose line is the rest of a line; InvalidLine is raised with the whole line if there is none."""
    try:
        return read_text(space, rest)
    except InvalidLine:
        raise InvalidLine(line) from None


def fact_read(texts, kept, line):
    """The fact of a line, whether it holds or not; InvalidLine is raised if it may not stand there."""
    name, _, other = line.partition(" > ")
    if name not in texts or other not in texts or name == other:
        raise InvalidLine(line)
    if kept != {} and not max(list(kept)) < (name, other):
        raise InvalidLine(line)
    return (name, other)


def is_name(value):
    """Tell whether any value is a name: 1 to 12 letters and digits, a letter first."""
    if not isinstance(value, str) or not 1 <= len(value) <= MOST_SIGNS:
        return False
    return value[0] in LETTERS and all([sign in LETTERS or sign in DIGITS for sign in value])


def with_item(items, key, item):
    """A copy of a dict with one more item, or another one."""
    found = {known: items[known] for known in items}
    found[key] = item
    return found


def without(kept, name):
    """Facts without those with a name."""
    return {fact: True for fact in kept if name not in fact}
