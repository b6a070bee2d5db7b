"""Spaces: a few names with so many values each, and their stores."""

from endlots.errors import InvalidLine, InvalidSizes, InvalidSpace, InvalidStore, InvalidValues
from endlots.shapes import is_digits, is_from, is_index, is_list

MOST_NAMES = 3
MOST_STORES = 8


class Space:
    """The names of a space, by the numbers of their values."""

    def __init__(self, sizes):
        if not is_sizes(sizes):
            raise InvalidSizes(sizes)
        self.sizes = tuple(sizes)
        self._stores = all_values(self.sizes)
        self.never = len(self._stores)

    def __len__(self):
        return len(self._stores)

    def __eq__(self, other):
        return isinstance(other, Space) and self.sizes == other.sizes

    def at(self, store):
        """The tuple of the values in a store."""
        if not is_index(store, self.never):
            raise InvalidStore(store)
        return self._stores[store]

    def store(self, values):
        """The store with a list of values, one for each name."""
        if not is_values(values, self.sizes):
            raise InvalidValues(values)
        return self._stores.index(tuple(values))

    def line(self):
        """The sizes in order with one space between them."""
        return " ".join([str(size) for size in self.sizes])


def all_values(sizes):
    """The tuple of the tuples of values of all stores, in ascending order."""
    stores = [()]
    for size in sizes:
        stores = [values + (value,) for values in stores for value in range(size)]
    return tuple(stores)


def is_sizes(value):
    """Tell whether any value is a list of sizes of a space."""
    if not is_list(value) or not 1 <= len(value) <= MOST_NAMES:
        return False
    if not all([is_from(size, 2, MOST_STORES) for size in value]):
        return False
    stores = 1
    for size in value:
        stores = stores * size
    return stores <= MOST_STORES


def is_values(value, sizes):
    """Tell whether any value is a list of values, one for each of the sizes."""
    if not is_list(value) or len(value) != len(sizes):
        return False
    return all([is_index(item, size) for item, size in zip(value, sizes)])


def need_space(space):
    """Raise InvalidSpace for any value that is no space."""
    if not isinstance(space, Space):
        raise InvalidSpace(space)


def read_space(line):
    """The Space with this line."""
    if not isinstance(line, str):
        raise InvalidLine(line)
    words = line.split(" ")
    if not all([is_digits(word) and len(word) == 1 for word in words]):
        raise InvalidLine(line)
    sizes = [int(word) for word in words]
    if not is_sizes(sizes):
        raise InvalidLine(line)
    return Space(sizes)
