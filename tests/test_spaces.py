"""Tests of endlots.spaces: [3] and [26] to [28]."""

import itertools
import unittest

from endlots.errors import InvalidLine, InvalidSizes, InvalidStore, InvalidValues
from endlots.ratios import Ratio
from endlots.spaces import Space, read_space
from odd import ALL_SIZES, any_values


class TestSpace(unittest.TestCase):
    def test_all_spaces(self):
        found = []
        for count in range(1, 4):
            for sizes in itertools.product(range(1, 10), repeat=count):
                try:
                    Space(sizes)
                except InvalidSizes:
                    continue
                found.append(sizes)
        self.assertEqual(sorted(found), sorted(ALL_SIZES))

    def test_attributes(self):
        for sizes in ALL_SIZES:
            for passed in (list(sizes), sizes):
                space = Space(sizes=passed)
                self.assertEqual(space.sizes, sizes)
                self.assertIs(type(space.sizes), tuple)
                stores = 1
                for size in sizes:
                    stores *= size
                self.assertEqual((len(space), space.never), (stores, stores))

    def test_wrong_sizes(self):
        wrong = [
            [], (), [1], [9], [0], [-2], [2, 1], [2, 5], [3, 3], [2, 2, 3], [2, 2, 2, 2], [2, 2, 2, 1], [True], [2, True],
            [2, None], ["2"], [[2]], [(2,)], [Ratio(2)], "2", "22", 2, {2: 2}, {"2": 2}, Space([2]), None, True, [2, "2"],
            [10 ** 60], [-2, -2], [4, 4], [8, 1],
        ]
        for sizes in wrong + any_values():
            with self.assertRaises(InvalidSizes) as caught:
                Space(sizes)
            self.assertIs(caught.exception.given, sizes)

    def test_passed_list_is_not_kept(self):
        sizes = [2, 3]
        space = Space(sizes)
        sizes.append(2)
        sizes[0] = 7
        self.assertEqual([space.sizes, len(space), space.line(), space.at(5)], [(2, 3), 6, "2 3", (1, 2)])

    def test_equal(self):
        for one in ALL_SIZES:
            for other in ALL_SIZES:
                self.assertIs(Space(one) == Space(list(other)), one == other)
                self.assertIs(Space(one) != Space(list(other)), one != other)
        for value in [one for one in any_values() if not isinstance(one, Space)] + [(2,), [2], 2, "2"]:
            self.assertFalse(Space([2]) == value)
            self.assertFalse(value == Space([2]))


class TestStores(unittest.TestCase):
    def test_there_and_back(self):
        for sizes in ALL_SIZES:
            space = Space(sizes)
            told = [space.at(store) for store in range(len(space))]
            self.assertEqual(told, sorted(itertools.product(*[range(size) for size in sizes])))
            for store, values in enumerate(told):
                self.assertIs(type(values), tuple)
                self.assertEqual(space.store(values), store)
                self.assertEqual(space.store(values=list(values)), store)
                self.assertEqual(space.at(store=store), values)

    def test_last_name_changes_first(self):
        space = Space([2, 2, 2])
        self.assertEqual([space.at(0), space.at(1), space.at(2), space.at(4)], [(0, 0, 0), (0, 0, 1), (0, 1, 0), (1, 0, 0)])

    def test_wrong_store(self):
        space = Space([2, 3])
        for store in [6, 7, -1, -6, True, False, Ratio(1), None, "1", [1], (1,), (0, 1), 10 ** 60, {}, space]:
            with self.assertRaises(InvalidStore) as caught:
                space.at(store)
            self.assertIs(caught.exception.given, store)

    def test_wrong_values(self):
        space = Space([2, 3])
        wrong = [
            [], [1], [1, 3], [2, 0], [-1, 0], [0, -1], [0, 1, 0], [True, 0], [0, False], [0, Ratio(1)], [0, None],
            ["0", "1"], "01", {0: 0, 1: 1}, None, 1, True, space, [[0, 1]], [(0, 1)], [0, [1]],
        ]
        for values in wrong + [value for value in any_values() if value != ((1, 0), (0, 1))]:
            with self.assertRaises(InvalidValues) as caught:
                space.store(values)
            self.assertIs(caught.exception.given, values)

    def test_arguments_stay(self):
        space, values = Space([2, 3]), [1, 2]
        space.store(values)
        self.assertEqual(values, [1, 2])


class TestLines(unittest.TestCase):
    def test_there_and_back(self):
        for sizes in ALL_SIZES:
            line = " ".join(str(size) for size in sizes)
            self.assertEqual(Space(sizes).line(), line)
            self.assertEqual(read_space(line=line), Space(sizes))
            self.assertEqual(read_space(line).sizes, sizes)

    def test_lines_of_none(self):
        lines = [
            "", " ", "1", "9", "0", "02", "2 ", " 2", "2  3", "2,3", "2 3 2", "3 3", "2 2 2 2", "2 2 2 1", "2\n", "2\t3",
            "+2", "-2", "2.", "\u0662", "\u00b2", "2 \u0663", "[2]", "2 x", "22", "2 4 1", "2 04", "2\n3", "(2,)",
        ]
        for line in lines + any_values():
            with self.assertRaises(InvalidLine) as caught:
                read_space(line)
            self.assertIs(caught.exception.given, line)

    def test_each_line_of_few_signs(self):
        wanted = {" ".join(str(size) for size in sizes) for sizes in ALL_SIZES}
        for length in range(1, 6):
            for signs in itertools.product(" 1234", repeat=length):
                line = "".join(signs)
                try:
                    space = read_space(line)
                except InvalidLine:
                    self.assertNotIn(line, wanted)
                else:
                    self.assertIn(line, wanted)
                    self.assertEqual(space.line(), line)

    def test_example(self):
        space = Space([2, 3])
        self.assertEqual(
            [len(space), space.never, space.at(4), space.store([1, 1]), space.line(), read_space("2 3") == space],
            [6, 6, (1, 1), 4, '2 3', True])


if __name__ == "__main__":
    unittest.main()
