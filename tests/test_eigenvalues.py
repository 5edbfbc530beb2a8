"""Spaces, eigenvalues, multiplicities and dual eigenvalues (points 29 to 42)."""

import copy
import random
import unittest
from fractions import Fraction
from math import comb, gcd

from schemebound.eigenvalues import (
    check_eigenvalues, dual_eigenvalues, eigenvalue, eigenvalues, krein, multiplicities,
)
from schemebound.errors import InvalidQuestion
from schemebound.numbers import numbers_of, valencies, ways_for
from schemebound.schemes import is_scheme, kind_count, kind_table, point_count

import samples

WHOLE = tuple(tree for tree in samples.SMALL if samples.has_whole_eigenvalues(tree))
NOT_WHOLE = tuple(tree for tree in samples.SMALL if not samples.has_whole_eigenvalues(tree))
GREAT = (
    ("words", 40, 2), ("words", 40, 31), ("words", 20, 1000), ("sets", 80, 40), ("sets", 80, 1), ("sets", 79, 39),
    ("product", ("words", 5, 2), ("words", 9, 2)), ("product", ("sets", 80, 9), ("words", 5, 1000)),
    ("product", ("words", 2, 1000), ("product", samples.CUBE_OF_KINDS, ("words", 1, 7))),
)


def minus(many):
    """-1 to the power of many."""
    return -1 if many % 2 else 1


def choose(many, few):
    """The number of ways to choose few of many, as point 31 tells it."""
    return comb(many, few) if few >= 0 else 0


class Definition(unittest.TestCase):
    def test_samples_have_both(self):
        self.assertIn(samples.PENTAGON, NOT_WHOLE)
        self.assertIn(samples.CUBE_OF_KINDS, WHOLE)
        self.assertGreater(len(WHOLE), 15)

    def test_as_many_different_spaces_as_kinds(self):
        for tree in WHOLE + GREAT:
            with self.subTest(tree):
                rows = eigenvalues(tree)
                self.assertEqual(len(rows), kind_count(tree))
                self.assertEqual({len(row) for row in rows}, {kind_count(tree)})
                self.assertEqual(len(set(rows)), kind_count(tree))
                self.assertEqual({row[0] for row in rows}, {1})
                self.assertEqual(rows[0], valencies(tree))
                self.assertEqual((multiplicities(tree)[0], sum(multiplicities(tree))), (1, point_count(tree)))
                self.assertGreater(min(multiplicities(tree)), 0)

    def test_products_of_eigenvalues(self):
        for tree in WHOLE + GREAT[4:5]:
            kinds = range(kind_count(tree))
            tables = [numbers_of(tree, k) for k in kinds]
            for row in eigenvalues(tree):
                for i in kinds:
                    for j in kinds:
                        self.assertEqual(row[i] * row[j], sum(tables[k][i][j] * row[k] for k in kinds))

    def test_the_tables_of_the_kinds_have_them(self):
        # The sum of the dimensions, each times an eigenvalue or its square or cube, is the number of closed ways.
        for tree in WHOLE:
            if point_count(tree) <= 30:
                table = kind_table(tree)
                points = range(len(table))
                for i in range(kind_count(tree)):
                    near = [[z for z in points if row[z] == i] for row in table]
                    twice = sum(1 for x in points for y in near[x] if x in near[y])
                    thrice = sum(1 for x in points for y in near[x] for z in near[y] if x in near[z])
                    column = [(many, row[i]) for many, row in zip(multiplicities(tree), eigenvalues(tree))]
                    self.assertEqual(sum(many * number for many, number in column), len(points) if i == 0 else 0)
                    self.assertEqual(sum(many * number ** 2 for many, number in column), twice)
                    self.assertEqual(sum(many * number ** 3 for many, number in column), thrice)

    def test_sums_over_kinds(self):
        for tree in WHOLE + GREAT:
            found, many = valencies(tree), multiplicities(tree)
            rows = eigenvalues(tree)
            for j in range(len(rows)):
                for l in range(0, j + 1, 1 + len(rows) // 8):
                    total = sum(Fraction(a * b, v) for a, b, v in zip(rows[j], rows[l], found))
                    self.assertEqual(total, Fraction(point_count(tree), many[j]) if j == l else 0)
                total = sum(Fraction(a * a, v) for a, v in zip(rows[j], found))
                self.assertEqual(total, Fraction(point_count(tree), many[j]))


class Sorts(unittest.TestCase):
    def test_words(self):
        for n, q in ((1, 2), (1, 1000), (2, 3), (5, 2), (6, 4), (13, 7), (20, 1000), (40, 2), (40, 31)):
            tree = ("words", n, q)
            kinds = range(n + 1)
            expected = [tuple(sum(minus(s) * (q - 1) ** (i - s) * choose(j, s) * choose(n - j, i - s)
                                  for s in range(i + 1)) for i in kinds) for j in kinds]
            self.assertEqual(eigenvalues(tree), expected)
            self.assertEqual(multiplicities(tree), tuple(comb(n, j) * (q - 1) ** j for j in kinds))
            self.assertEqual([eigenvalue(tree, j, i) for j in (0, n // 2, n) for i in kinds],
                             [expected[j][i] for j in (0, n // 2, n) for i in kinds])

    def test_sets(self):
        for n, k in ((2, 1), (80, 1), (4, 2), (5, 2), (9, 4), (10, 5), (30, 7), (79, 39), (80, 40), (80, 39)):
            tree = ("sets", n, k)
            kinds = range(k + 1)
            expected = [tuple(sum(minus(s) * choose(j, s) * choose(k - j, i - s) * choose(n - k - j, i - s)
                                  for s in range(i + 1)) for i in kinds) for j in kinds]
            self.assertEqual(eigenvalues(tree), expected)
            self.assertEqual(multiplicities(tree), tuple(choose(n, j) - choose(n, j - 1) for j in kinds))
            self.assertEqual([eigenvalue(tree, j, i) for j in (0, k // 2, k) for i in kinds],
                             [expected[j][i] for j in (0, k // 2, k) for i in kinds])

    def test_products(self):
        one, other = ("sets", 5, 2), ("words", 3, 4)
        listed = samples.switched(samples.TRIANGLE_PAIR, (0, 2, 1))
        for first, second in ((one, other), (other, one), (samples.TRIANGLE_PAIR, other), (one, listed)):
            tree = ("product", first, second)
            spaces, kinds = kind_count(second), kind_count(tree)
            for space in range(kinds):
                j, l = divmod(space, spaces)
                expected = tuple(a * b for a in eigenvalues(first)[j] for b in eigenvalues(second)[l])
                self.assertEqual(eigenvalues(tree)[space], expected)
                self.assertEqual(multiplicities(tree)[space], multiplicities(first)[j] * multiplicities(second)[l])
                self.assertEqual(tuple(eigenvalue(tree, space, kind) for kind in range(kinds)), expected)

    def test_listed(self):
        self.assertEqual(eigenvalues(samples.ONE_POINT), [(1,)])
        self.assertEqual(multiplicities(samples.ONE_POINT), (1,))
        self.assertEqual(eigenvalues(samples.PAIR), [(1, 1), (1, -1)])
        self.assertEqual((eigenvalues(samples.ROWS_24), multiplicities(samples.ROWS_24)),
                         ([(1, 23), (1, -1)], (1, 23)))
        self.assertEqual((eigenvalues(samples.TRIANGLE_PAIR), multiplicities(samples.TRIANGLE_PAIR)),
                         ([(1, 1, 2), (1, 1, -2), (1, -1, 0)], (1, 1, 2)))
        expected = [tuple(minus(bin(x & y).count("1")) for y in range(8)) for x in range(8)]
        self.assertEqual(eigenvalues(samples.CUBE_OF_KINDS), sorted(expected, reverse=True))
        self.assertEqual(multiplicities(samples.CUBE_OF_KINDS), (1,) * 8)

    def test_listed_ones_in_descending_order(self):
        for tree in WHOLE + samples.LISTED_WHOLE:
            if tree[0] == "listed":
                rows = eigenvalues(tree)
                self.assertEqual(rows, sorted(rows, reverse=True))
                self.assertEqual([tuple(eigenvalue(tree, j, i) for i in range(len(rows))) for j in range(len(rows))], rows)

    def test_listed_ones_are_those_of_the_same_table(self):
        # The table of a scheme of another sort has the same spaces, perhaps in another order.
        for tree in (("words", 3, 2), ("words", 4, 2), ("words", 2, 4), ("sets", 5, 2), ("sets", 6, 3), ("sets", 6, 2),
                     ("product", ("words", 1, 4), ("words", 1, 6)), ("product", ("words", 2, 2), ("sets", 5, 1)),
                     ("product", ("sets", 4, 2), ("words", 2, 2))):
            listed = ("listed", kind_table(tree)) if kind_count(tree) <= 8 and point_count(tree) <= 24 else None
            if listed:
                told = sorted(zip(eigenvalues(tree), multiplicities(tree)), reverse=True)
                self.assertEqual(list(zip(eigenvalues(listed), multiplicities(listed))), told)

    def test_words_have_dual_eigenvalues_like_their_eigenvalues(self):
        for n, q in ((1, 2), (4, 3), (20, 1000), (40, 31)):
            rows = eigenvalues(("words", n, q))
            expected = [tuple((rows[i][j], 1) for j in range(n + 1)) for i in range(n + 1)]
            self.assertEqual(dual_eigenvalues(("words", n, q)), expected)


class NotWhole(unittest.TestCase):
    def test_all_functions_but_one_raise(self):
        inside = tuple(tree for one in NOT_WHOLE for tree in (
            one, ("product", one, ("words", 1, 2)), ("product", ("sets", 4, 2), one),
            ("product", ("words", 1, 2), ("product", one, ("words", 1, 3)))) if is_scheme(tree))
        for tree in inside:
            for call in (eigenvalues, multiplicities, dual_eigenvalues, lambda one: eigenvalue(one, 0, 0),
                         lambda one: krein(one, 0, 0, 0)):
                with self.subTest(tree), self.assertRaises(InvalidQuestion):
                    call(tree)
            if kind_count(tree) <= 30:
                kinds = kind_count(tree)
                self.assertIs(check_eigenvalues(tree, [valencies(tree)] * kinds), False)
                self.assertIs(check_eigenvalues(tree, []), False)

    def test_circles(self):
        # Twice the cosine of a part of a circle is an integer for the circles of 1, 2, 3, 4 and 6 points alone.
        for many in range(1, 16):
            tree = samples.circle(many, lambda distance: distance)
            if many in (1, 2, 3, 4, 6):
                self.assertEqual(sum(multiplicities(tree)), many)
            else:
                with self.subTest(many), self.assertRaises(InvalidQuestion):
                    eigenvalues(tree)

    def test_strongly_regular_graphs(self):
        # The points of a prime number of them, by whether the difference is a square; 9 points by their rows and columns.
        squares = {x * x % 13 for x in range(1, 13)}
        rows = [[0 if x == y else 1 if (x - y) % 13 in squares else 2 for y in range(13)] for x in range(13)]
        with self.assertRaises(InvalidQuestion):
            eigenvalues(("listed", rows))
        rows = [[0 if x == y else 1 if x // 3 == y // 3 or x % 3 == y % 3 else 2 for y in range(9)] for x in range(9)]
        self.assertEqual(eigenvalues(("listed", rows)), [(1, 4, 4), (1, 1, -2), (1, -2, 1)])


class Duals(unittest.TestCase):
    def test_dual_eigenvalues(self):
        for tree in WHOLE + GREAT:
            found, many, rows = valencies(tree), multiplicities(tree), eigenvalues(tree)
            kinds = range(len(rows))
            expected = [[Fraction(many[j] * rows[j][i], found[i]) for j in kinds] for i in kinds]
            self.assertEqual(dual_eigenvalues(tree),
                             [tuple((one.numerator, one.denominator) for one in row) for row in expected])

    def test_they_are_in_lowest_terms(self):
        seen = set()
        for tree in WHOLE:
            for row in dual_eigenvalues(tree):
                for top, bottom in row:
                    self.assertGreater(bottom, 0)
                    self.assertEqual(gcd(top, bottom), 1)
                    seen.add((top == 0, bottom == 1))
        self.assertEqual(seen, {(True, True), (False, True), (False, False)})

    def test_both_turned_after_one_another(self):
        for tree in WHOLE + GREAT:
            rows, duals = eigenvalues(tree), dual_eigenvalues(tree)
            kinds = range(len(rows))
            for i in kinds:
                for l in range(0, len(rows), 1 + len(rows) // 8):
                    total = sum(Fraction(*duals[i][j]) * rows[j][l] for j in kinds)
                    self.assertEqual(total, point_count(tree) if i == l else 0)

    def test_krein(self):
        for tree in WHOLE:
            duals = [[Fraction(*one) for one in row] for row in dual_eigenvalues(tree)]
            kinds = range(len(duals))
            if len(kinds) > 6:
                continue
            for i in kinds:
                for j in kinds:
                    found = [Fraction(*krein(tree, i, j, k)) for k in kinds]
                    self.assertGreaterEqual(min(found), 0)
                    # Products of vectors of two spaces, as the table of the kinds of these shows them.
                    for l in kinds:
                        self.assertEqual(duals[l][i] * duals[l][j], sum(found[k] * duals[l][k] for k in kinds))

    def test_krein_of_words(self):
        for tree in (("words", 1, 2), ("words", 4, 2), ("words", 5, 3), ("words", 20, 1000), ("words", 40, 31)):
            n = tree[1]
            chance = random.Random(41)
            for _ in range(60):
                i, j, k = (chance.randrange(n + 1) for _ in range(3))
                self.assertEqual(krein(tree, i, j, k), (ways_for(tree, i, j, k), 1))

    def test_krein_in_lowest_terms(self):
        found = {krein(("sets", 7, 3), i, j, k) for i in range(4) for j in range(4) for k in range(4)}
        self.assertIn((0, 1), found)
        self.assertGreater(max(bottom for _, bottom in found), 1)
        for top, bottom in found:
            self.assertEqual(gcd(top, bottom), 1)
        self.assertEqual(krein(samples.ONE_POINT, 0, 0, 0), (1, 1))

    def test_krein_of_great_schemes(self):
        tree = ("sets", 80, 40)
        many = multiplicities(tree)
        self.assertEqual(krein(tree, 3, 3, 0), (many[3], 1))
        self.assertEqual(krein(tree, 3, 4, 0), (0, 1))
        self.assertEqual(krein(tree, 0, 7, 7), (1, 1))


class Checking(unittest.TestCase):
    def test_the_rows_in_whatever_order(self):
        chance = random.Random(40)
        for tree in WHOLE + GREAT:
            if kind_count(tree) <= 30:
                rows = eigenvalues(tree)
                for _ in range(3):
                    with self.subTest(tree):
                        self.assertIs(check_eigenvalues(tree, rows), True)
                        self.assertIs(check_eigenvalues(tree, tuple(list(row) for row in rows)), True)
                    chance.shuffle(rows)

    def test_rows_that_are_others(self):
        for tree in WHOLE:
            rows = eigenvalues(tree)
            kinds = len(rows)
            for at in range(kinds):
                for kind in range(kinds):
                    for step in (-1, 1):
                        changed = [list(row) for row in rows]
                        changed[at][kind] += step
                        self.assertIs(check_eigenvalues(tree, changed), False)
                self.assertIs(check_eigenvalues(tree, rows[:at] + rows[at + 1:]), False)
                self.assertIs(check_eigenvalues(tree, rows + [rows[at]]), False)
                if kinds > 1:
                    self.assertIs(check_eigenvalues(tree, rows[:at] + [rows[at - 1]] + rows[at + 1:]), False)

    def test_rows_that_fulfil_point_35_for_some_kinds_alone(self):
        # All products are those of sums, but for kind 0.
        self.assertIs(check_eigenvalues(("words", 1, 2), [(0, 0), (1, 1)]), False)
        self.assertIs(check_eigenvalues(("words", 1, 2), [(1, 1), (0, 0)]), False)
        self.assertIs(check_eigenvalues(samples.CUBE_OF_KINDS, [(1,) * 8] * 8), False)

    def test_rows_of_a_strange_length(self):
        tree = ("words", 2, 2)
        rows = eigenvalues(tree)
        for wrong in ([], (), [[]], [(), (), ()], rows[:2], rows + [(1,)], [rows[0], rows[1], rows[2] + (0,)],
                      [rows[0], rows[1], rows[2][:2]], [row + (0,) for row in rows], [row[:2] for row in rows],
                      [(1,), (2,), (3,)], rows + rows):
            with self.subTest(wrong):
                self.assertIs(check_eigenvalues(tree, wrong), False)
        self.assertIs(check_eigenvalues(samples.ONE_POINT, [[1]]), True)
        self.assertIs(check_eigenvalues(samples.ONE_POINT, [[2]]), False)
        self.assertIs(check_eigenvalues(samples.ONE_POINT, [[1], [1]]), False)

    def test_thirty_kinds_and_one_more(self):
        for tree in (("words", 29, 117), ("words", 29, 2), ("sets", 60, 29), ("product", ("words", 9, 2), ("words", 2, 5))):
            rows = eigenvalues(tree)
            self.assertEqual(len(rows), 30)
            self.assertIs(check_eigenvalues(tree, rows[::-1]), True)
            rows[7] = rows[7][:-1] + (rows[7][-1] + 1,)
            self.assertIs(check_eigenvalues(tree, rows), False)
        for tree in (("words", 30, 2), ("words", 40, 31), ("sets", 60, 30), ("product", ("words", 15, 2), ("words", 1, 2)),
                     ("product", samples.PENTAGON, ("words", 10, 2))):
            self.assertGreater(kind_count(tree), 30)
            for rows in ([], [[1]], [valencies(tree)] * kind_count(tree)):
                with self.subTest(tree), self.assertRaises(InvalidQuestion):
                    check_eigenvalues(tree, rows)


class Asking(unittest.TestCase):
    def test_numbers_of_spaces_and_kinds(self):
        for tree in (("words", 3, 2), ("sets", 4, 2), samples.TRIANGLE_PAIR, ("product", samples.PAIR, ("words", 2, 3)),
                     samples.PENTAGON, ("words", 20, 1000), samples.ONE_POINT):
            kinds = kind_count(tree)
            for wrong in (-1, kinds, kinds + 1, -kinds, 10 ** 60):
                for call in (lambda: eigenvalue(tree, wrong, 0), lambda: eigenvalue(tree, 0, wrong),
                             lambda: eigenvalue(tree, wrong, wrong), lambda: krein(tree, wrong, 0, 0),
                             lambda: krein(tree, 0, wrong, 0), lambda: krein(tree, 0, 0, wrong)):
                    with self.subTest(tree), self.assertRaises(InvalidQuestion):
                        call()

    def test_kinds_of_values(self):
        for tree in WHOLE:
            self.assertIs(type(eigenvalues(tree)), list)
            self.assertEqual({type(row) for row in eigenvalues(tree)}, {tuple})
            self.assertIs(type(multiplicities(tree)), tuple)
            self.assertIs(type(dual_eigenvalues(tree)), list)
            self.assertEqual({type(row) for row in dual_eigenvalues(tree)}, {tuple})
            self.assertEqual({type(one) for row in dual_eigenvalues(tree) for one in row}, {tuple})
            self.assertIs(type(eigenvalue(tree, 0, 0)), int)
            self.assertEqual(krein(tree, 0, 0, 0), (1, 1))

    def test_arguments_and_later_answers_stay_as_they_were(self):
        rows = [[0, 1, 2, 2], [1, 0, 2, 2], [2, 2, 0, 1], [2, 2, 1, 0]]
        tree = ("product", ("listed", rows), ("words", 2, 2))
        told = [list(row) for row in eigenvalues(tree)]
        kept = copy.deepcopy((tree, told))
        answers = []
        for _ in range(2):
            answers.append(copy.deepcopy((eigenvalues(tree), multiplicities(tree), dual_eigenvalues(tree),
                                          check_eigenvalues(tree, told), krein(tree, 1, 2, 3))))
            eigenvalues(tree).reverse()
            dual_eigenvalues(tree).clear()
            self.assertEqual((tree, told), kept)
        self.assertEqual(answers[0], answers[1])


if __name__ == "__main__":
    unittest.main()
