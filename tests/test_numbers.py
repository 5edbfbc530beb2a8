"""The valencies and numbers of kinds (points 15 to 19)."""

import unittest
from math import comb, factorial

from schemebound.errors import InvalidQuestion
from schemebound.numbers import numbers_of, valencies, ways_for
from schemebound.schemes import kind_count, kind_table, point_count

import samples

COUNTED = tuple(tree for tree in samples.SMALL if point_count(tree) <= 66)
GREATEST = (
    ("words", 40, 2), ("words", 40, 31), ("words", 20, 1000), ("sets", 80, 40), ("sets", 80, 1), ("sets", 79, 39),
    ("product", ("words", 5, 2), ("words", 9, 2)), ("product", ("words", 19, 1000), ("words", 1, 1000)),
    ("product", samples.PENTAGON, ("product", ("sets", 8, 4), ("words", 3, 50))),
)


def formula_of_words(n, q, i, j, k):
    """Point 16, word by word."""
    total = 0
    for t in range(n - k + 1):
        c, a, b = i + j - k - 2 * t, k - j + t, k - i + t
        if min(a, b, c) >= 0:
            ways = factorial(k) // (factorial(a) * factorial(b) * factorial(c))
            total += comb(n - k, t) * (q - 1) ** t * ways * (q - 2) ** c
    return total


def formula_of_sets(n, m, i, j, k):
    """Point 17, word by word."""
    def ways(many, few):
        return comb(many, few) if few >= 0 else 0

    return sum(ways(m - k, s) * ways(k, m - i - s) * ways(k, m - j - s) * ways(n - m - k, i + j + s - m)
               for s in range(m - k + 1))


class Counting(unittest.TestCase):
    def test_valencies_and_numbers_are_those_that_are_counted(self):
        for tree in COUNTED:
            table = kind_table(tree)
            counted = samples.counted_numbers(table)
            kinds = range(len(counted))
            with self.subTest(tree):
                self.assertEqual(valencies(tree), tuple(table[-1].count(kind) for kind in kinds))
                for k in kinds:
                    self.assertEqual(numbers_of(tree, k), tuple(map(tuple, counted[k])))
                    for i in kinds:
                        for j in kinds:
                            self.assertEqual(ways_for(tree, i, j, k), counted[k][i][j])

    def test_the_bases_2_and_3(self):
        # With base 2 no third figure is there, so 0 ** 0 counts as 1 and 0 ** c as 0 else.
        self.assertEqual(ways_for(("words", 2, 2), 1, 1, 2), 2)
        self.assertEqual(ways_for(("words", 2, 2), 1, 1, 1), 0)
        self.assertEqual(ways_for(("words", 1, 2), 1, 1, 1), 0)
        self.assertEqual(ways_for(("words", 1, 3), 1, 1, 1), 1)
        self.assertEqual(ways_for(("words", 1, 1000), 1, 1, 1), 998)

    def test_formula_of_words(self):
        for n, q in ((1, 1000), (2, 1000), (5, 2), (5, 7), (9, 4), (20, 1000), (40, 2), (40, 31)):
            found = valencies(("words", n, q))
            self.assertEqual(found, tuple(comb(n, i) * (q - 1) ** i for i in range(n + 1)))
            for k in range(0, n + 1, 1 + n // 6):
                table = numbers_of(("words", n, q), k)
                expected = tuple(tuple(formula_of_words(n, q, i, j, k) for j in range(n + 1)) for i in range(n + 1))
                self.assertEqual(table, expected)
                self.assertEqual(ways_for(("words", n, q), n, n // 2, k), expected[n][n // 2])

    def test_formula_of_sets(self):
        for n, m in ((2, 1), (80, 1), (80, 2), (10, 5), (11, 5), (80, 40), (79, 39), (60, 20)):
            found = valencies(("sets", n, m))
            self.assertEqual(found, tuple(comb(m, i) * comb(n - m, i) for i in range(m + 1)))
            for k in range(0, m + 1, 1 + m // 6):
                table = numbers_of(("sets", n, m), k)
                expected = tuple(tuple(formula_of_sets(n, m, i, j, k) for j in range(m + 1)) for i in range(m + 1))
                self.assertEqual(table, expected)
                self.assertEqual(ways_for(("sets", n, m), m, m // 2, k), expected[m][m // 2])

    def test_products_of_parts(self):
        one, other = ("sets", 6, 2), samples.PENTAGON
        tree = ("product", one, other)
        self.assertEqual(valencies(tree), tuple(v * w for v in valencies(one) for w in valencies(other)))
        for i in range(9):
            for j in range(9):
                for k in range(9):
                    first = ways_for(one, i // 3, j // 3, k // 3)
                    self.assertEqual(ways_for(tree, i, j, k), first * ways_for(other, i % 3, j % 3, k % 3))

    def test_the_scheme_of_one_point(self):
        self.assertEqual(valencies(samples.ONE_POINT), (1,))
        self.assertEqual(ways_for(samples.ONE_POINT, 0, 0, 0), 1)
        self.assertEqual(numbers_of(("listed", [[0]]), 0), ((1,),))


class Identities(unittest.TestCase):
    def test_sums_and_exchanges(self):
        for tree in samples.SMALL + GREATEST:
            kinds = range(kind_count(tree))
            found = valencies(tree)
            tables = [numbers_of(tree, k) for k in kinds]
            with self.subTest(tree):
                self.assertEqual(sum(found), point_count(tree))
                self.assertEqual(found[0], 1)
                for k in kinds:
                    self.assertEqual(tables[k], tuple(zip(*tables[k])))
                    self.assertEqual(tuple(sum(row) for row in tables[k]), found)
                    for i in kinds:
                        left = [found[k] * tables[k][i][j] for j in kinds]
                        self.assertEqual(left, [found[i] * tables[i][k][j] for j in kinds])

    def test_kind_zero(self):
        for tree in samples.SMALL + GREATEST:
            kinds = range(kind_count(tree))
            found = valencies(tree)
            with self.subTest(tree):
                self.assertEqual(numbers_of(tree, 0),
                                 tuple(tuple(found[i] if i == j else 0 for j in kinds) for i in kinds))
                for k in kinds:
                    self.assertEqual(numbers_of(tree, k)[0], tuple(int(j == k) for j in kinds))


class Asking(unittest.TestCase):
    def test_what_is_returned_is_tuples(self):
        for tree in (("words", 2, 3), ("sets", 4, 2), ("listed", [[0, 1], [1, 0]]), ("product", samples.PAIR, samples.PAIR)):
            self.assertIs(type(valencies(tree)), tuple)
            self.assertIs(type(numbers_of(tree, 1)), tuple)
            self.assertEqual({type(row) for row in numbers_of(tree, 1)}, {tuple})

    def test_what_is_no_kind(self):
        for tree in samples.SMALL + samples.MANY_POINTS:
            kinds = kind_count(tree)
            ways_for(tree, kinds - 1, kinds - 1, kinds - 1)
            for wrong in (-1, kinds, kinds + 1, -kinds, 10 ** 60):
                for asked in ((wrong, 0, 0), (0, wrong, 0), (0, 0, wrong), (wrong, wrong, wrong)):
                    with self.subTest(tree), self.assertRaises(InvalidQuestion):
                        ways_for(tree, *asked)
                with self.subTest(tree), self.assertRaises(InvalidQuestion):
                    numbers_of(tree, wrong)


if __name__ == "__main__":
    unittest.main()
