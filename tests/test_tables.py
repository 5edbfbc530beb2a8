"""Faults of tables of kinds (points 20 and 21)."""

import copy
import random
import unittest
from itertools import product

from schemebound.errors import InvalidScheme
from schemebound.schemes import checked, is_scheme
from schemebound.tables import table_fault

import samples


def told_fault(rows):
    """The fault of a table, word by word as point 20 tells it."""
    many = len(rows)
    if not 1 <= many <= 24 or any(len(row) != many for row in rows):
        return ("shape",)
    cells = list(product(range(many), repeat=2))
    for r, c in cells:
        if not 0 <= rows[r][c] <= 7:
            return ("cell", r, c)
    for r, c in cells:
        if (r == c and rows[r][c] != 0) or (r != c and rows[r][c] == 0):
            return ("diagonal", r, c)
    for r, c in cells:
        if rows[r][c] != rows[c][r]:
            return ("mirror", r, c)
    occurring = {kind for row in rows for kind in row}
    for kind in range(max(occurring)):
        if kind not in occurring:
            return ("kind", kind)

    def number(i, j, r, c):
        return sum(1 for z in range(many) if rows[r][z] == i and rows[c][z] == j)

    firsts = {}
    for r, c in cells:
        first = firsts.setdefault(rows[r][c], (r, c))
        for i, j in product(sorted(occurring), repeat=2):
            if number(i, j, r, c) != number(i, j, *first):
                return ("number", i, j, r, c)
    return None


class Faults(unittest.TestCase):
    def test_tables_of_schemes_have_none(self):
        for tree in samples.SMALL:
            if tree[0] == "listed":
                with self.subTest(tree):
                    self.assertIsNone(table_fault(tree[1]))
                    self.assertIsNone(table_fault([list(row) for row in tree[1]]))
                    self.assertIsNone(table_fault(tuple(list(row) for row in tree[1])))

    def test_shape(self):
        line = [[0, 1], [1, 0]]
        for rows in ([], (), [[]], [[0, 1]], [[0], [0]], [[0, 1], [1]], [[0, 1], [1, 0, 1]], line + [[1, 1]],
                     [[0, 1, 1], [1, 0, 1]], samples.ROWS_25[1], [[0] * 25] * 25, [[9]] * 2):
            with self.subTest(rows):
                self.assertEqual(table_fault(rows), ("shape",))
        self.assertIsNone(table_fault([[0]]))
        self.assertIsNone(table_fault(samples.ROWS_24[1]))
        self.assertIsNone(table_fault(line))

    def test_cells(self):
        self.assertEqual(table_fault([[0, -1], [-1, 0]]), ("cell", 0, 1))
        self.assertEqual(table_fault([[0, 8], [8, 0]]), ("cell", 0, 1))
        self.assertEqual(table_fault([[0, 1], [10 ** 60, 0]]), ("cell", 1, 0))
        self.assertEqual(table_fault([[0, 7], [7, 0]]), ("kind", 1))
        self.assertEqual(table_fault([[8]]), ("cell", 0, 0))
        self.assertIsNone(table_fault(samples.CUBE_OF_KINDS[1]))
        self.assertEqual(table_fault(samples.NINE_KINDS[1]), ("cell", 0, 8))

    def test_diagonal(self):
        self.assertEqual(table_fault([[1]]), ("diagonal", 0, 0))
        self.assertEqual(table_fault([[0, 0], [0, 0]]), ("diagonal", 0, 1))
        self.assertEqual(table_fault([[0, 1, 1], [1, 0, 1], [1, 1, 2]]), ("diagonal", 2, 2))
        self.assertEqual(table_fault([[0, 1, 1], [1, 0, 1], [1, 0, 0]]), ("diagonal", 2, 1))

    def test_mirror(self):
        self.assertEqual(table_fault([[0, 1], [2, 0]]), ("mirror", 0, 1))
        self.assertEqual(table_fault([[0, 1, 2], [1, 0, 1], [2, 2, 0]]), ("mirror", 1, 2))

    def test_kind(self):
        self.assertEqual(table_fault([[0, 2], [2, 0]]), ("kind", 1))
        self.assertEqual(table_fault([[0, 1, 5, 5], [1, 0, 5, 5], [5, 5, 0, 1], [5, 5, 1, 0]]), ("kind", 2))
        self.assertEqual(table_fault([[0, 3, 1], [3, 0, 1], [1, 1, 0]]), ("kind", 2))

    def test_number(self):
        self.assertEqual(table_fault([[0, 1, 1], [1, 0, 2], [1, 2, 0]]), ("number", 1, 2, 1, 0))
        self.assertEqual(table_fault(samples.HEXAGON_OF_TWO[1]), told_fault(samples.HEXAGON_OF_TWO[1]))
        self.assertEqual(table_fault(samples.HEXAGON_OF_TWO[1])[0], "number")
        self.assertEqual(table_fault([[0, 1, 2], [1, 0, 1], [2, 1, 0]]), ("number", 1, 2, 1, 0))
        # All pairs of kind 1 are alike; those of kind 2 are not alike both ways round.
        uneven = [[0, 1, 1, 2, 2], [1, 0, 1, 2, 2], [1, 1, 0, 2, 2], [2, 2, 2, 0, 2], [2, 2, 2, 2, 0]]
        self.assertEqual(table_fault(uneven), ("number", 1, 2, 3, 0))

    def test_the_first_of_two_faults(self):
        for rows, fault in (
                ([[0, 9], [1]], ("shape",)), ([[5, -1], [1, 0]], ("cell", 0, 1)), ([[0, 0], [8, 0]], ("cell", 1, 0)),
                ([[0, 1, 2], [2, 0, 1], [1, 0, 0]], ("diagonal", 2, 1)), ([[0, 5], [6, 0]], ("mirror", 0, 1)),
                ([[0, 3, 3], [3, 0, 2], [3, 2, 0]], ("kind", 1)), ([[0, 1], [0, 9]], ("cell", 1, 1)),
                ([[1, 0], [0, 1]], ("diagonal", 0, 0))):
            with self.subTest(rows):
                self.assertEqual(table_fault(rows), fault)

    def test_against_the_words_of_the_document(self):
        seen = {}
        chance = random.Random(20)
        for _ in range(4000):
            many = chance.choice((1, 2, 3, 3, 4, 4, 5, 6))
            kinds = chance.choice((1, 2, 2, 3, 3, 4))
            rows = [[0] * many for _ in range(many)]
            for r in range(many):
                for c in range(r):
                    rows[r][c] = rows[c][r] = chance.randrange(1, kinds + 1)
            for _ in range(chance.choice((0, 0, 0, 1, 2))):
                rows[chance.randrange(many)][chance.randrange(many)] = chance.choice((-1, 0, 1, 2, 3, 7, 8))
            expected = told_fault(rows)
            self.assertEqual(table_fault(rows), expected, rows)
            seen[expected and expected[0]] = seen.get(expected and expected[0], 0) + 1
        self.assertEqual(set(seen), {None, "cell", "diagonal", "mirror", "kind", "number"})
        self.assertGreater(min(seen.values()), 50)

    def test_tables_with_some_pairs_changed(self):
        chance = random.Random(21)
        for tree in (samples.PENTAGON, samples.TRIANGLE_PAIR, samples.CUBE_OF_KINDS, samples.EIGHT_KINDS):
            for _ in range(60):
                rows = [list(row) for row in tree[1]]
                for _ in range(chance.choice((1, 1, 2, 3))):
                    r, c = chance.sample(range(len(rows)), 2)
                    rows[r][c] = rows[c][r] = chance.randrange(1, 1 + max(rows[0]))
                self.assertEqual(table_fault(rows), told_fault(rows))


class Schemes(unittest.TestCase):
    def test_a_table_without_a_fault_is_that_of_a_listed_scheme(self):
        found = 0
        for cells in product(range(4), repeat=6):
            a, b, c, d, e, f = cells
            rows = [[0, a, b, c], [a, 0, d, e], [b, d, 0, f], [c, e, f, 0]]
            sound = table_fault(rows) is None
            self.assertIs(is_scheme(("listed", rows)), sound)
            self.assertIs(samples.is_table_of_scheme(rows), sound)
            found += sound
        self.assertEqual(found, 13)

    def test_a_table_with_a_fault_is_that_of_none(self):
        for rows in ([], [[0, 1]], [[1]], [[0, 8], [8, 0]], [[0, 1], [2, 0]], [[0, 2], [2, 0]],
                     [[0, 1, 1], [1, 0, 2], [1, 2, 0]], samples.ROWS_25[1], samples.HEXAGON_OF_TWO[1]):
            self.assertIsNotNone(table_fault(rows))
            with self.assertRaises(InvalidScheme):
                checked(("listed", rows))


class Asking(unittest.TestCase):
    def test_the_table_stays_as_it_was_and_the_fault_is_a_tuple(self):
        for rows in ([[0, 1], [1, 0]], [[0, 1, 1], [1, 0, 2], [1, 2, 0]], [[0, 9], [9, 0]], [[1]], [], [[0, 2], [2, 0]]):
            kept = copy.deepcopy(rows)
            fault = table_fault(rows)
            self.assertEqual(rows, kept)
            self.assertEqual(table_fault(rows), fault)
            if fault is not None:
                self.assertIs(type(fault), tuple)


if __name__ == "__main__":
    unittest.main()
