"""Which trees are schemes, and what is told of the whole of them (points 2 to 5)."""

import unittest
from itertools import product

from schemebound.bounds import best_shares, best_weights, bounds_from, greatest_size, linear_bound
from schemebound.classes import (
    is_merging, merged_fault, merged_numbers, merged_scheme, merged_valencies, mergings,
)
from schemebound.eigenvalues import (
    check_eigenvalues, dual_eigenvalues, eigenvalue, eigenvalues, krein, multiplicities,
)
from schemebound.errors import InvalidScheme
from schemebound.greatest import fitting, greatest, grown, is_allowed, lot_counts, lots
from schemebound.lots import (
    dual_shares, duals_from, is_even, kinds_in, least_kind, others_of, pair_counts, seen_from, shares, shares_from,
    shares_of_others, silent_spaces, strength,
)
from schemebound.notation import format_scheme
from schemebound.numbers import numbers_of, valencies, ways_for
from schemebound.schemes import (
    check_point, checked, is_scheme, kind_count, kind_of, kind_table, part_count, point_count, point_of_set,
    point_of_word, set_at, word_at,
)
from schemebound.summing import holds_sums, moved, right_angles, spanned

import samples

# Each function that takes a tree, with other arguments that are wrong, too: InvalidScheme comes ahead of all.
WITH_A_TREE = (
    checked, point_count, kind_count, part_count, kind_table, format_scheme, valencies,
    lambda tree: kind_of(tree, -1, -1), lambda tree: check_point(tree, -1), lambda tree: word_at(tree, -1),
    lambda tree: set_at(tree, -1), lambda tree: point_of_word(tree, (-1,)), lambda tree: point_of_set(tree, (-1,)),
    lambda tree: ways_for(tree, -1, -1, -1), lambda tree: numbers_of(tree, -1),
    lambda tree: merged_fault(tree, []), lambda tree: is_merging(tree, []), lambda tree: merged_valencies(tree, []),
    lambda tree: merged_numbers(tree, [], -1), lambda tree: merged_scheme(tree, []), lambda tree: mergings(tree, limit=0),
    eigenvalues, multiplicities, dual_eigenvalues, lambda tree: eigenvalue(tree, -1, -1),
    lambda tree: check_eigenvalues(tree, []), lambda tree: krein(tree, -1, -1, -1),
    lambda tree: pair_counts(tree, [-1, -1]), lambda tree: shares(tree, []), lambda tree: kinds_in(tree, [-1]),
    lambda tree: dual_shares(tree, [-1]), lambda tree: silent_spaces(tree, []), lambda tree: strength(tree, [-1]),
    lambda tree: least_kind(tree, []), lambda tree: duals_from(tree, 0, []), lambda tree: shares_from(tree, 0, []),
    lambda tree: seen_from(tree, [], -1), lambda tree: is_even(tree, [-1]), lambda tree: others_of(tree, []),
    lambda tree: shares_of_others(tree, 0, []), lambda tree: moved(tree, [], -1), lambda tree: holds_sums(tree, []),
    lambda tree: spanned(tree, [-1], limit=0), lambda tree: right_angles(tree, []),
    lambda tree: is_allowed(tree, [0], [-1]), lambda tree: fitting(tree, [0], [-1]), lambda tree: grown(tree, [0], [-1]),
    lambda tree: lots(tree, [0], -1, limit=0), lambda tree: lot_counts(tree, [0], limit=0),
    lambda tree: greatest(tree, [0], limit=0), lambda tree: linear_bound(tree, [0]),
    lambda tree: greatest_size(tree, [0]), lambda tree: best_shares(tree, [0]), lambda tree: best_weights(tree, [0]),
    bounds_from,
)


class Trees(unittest.TestCase):
    def test_samples_are_schemes(self):
        for tree in samples.SMALL + samples.MANY_POINTS:
            with self.subTest(tree):
                self.assertIs(is_scheme(tree), True)
                self.assertEqual(checked(tree), tree)

    def test_faulty_trees_are_none(self):
        for label, tree in samples.faulty_trees():
            with self.subTest(label):
                self.assertIs(is_scheme(tree), False)

    def test_every_function_raises_invalid_scheme_ahead_of_all(self):
        for label, tree in samples.faulty_trees():
            for call in WITH_A_TREE:
                with self.subTest(label), self.assertRaises(InvalidScheme):
                    call(tree)

    def test_bounds_of_words(self):
        for many, base in product((0, 1, 2, 39, 40, 41), (1, 2, 3, 31, 32, 999, 1000, 1001)):
            inside = 1 <= many <= 40 and 2 <= base <= 1000 and base ** many <= 10 ** 60
            with self.subTest((many, base)):
                self.assertIs(is_scheme(("words", many, base)), inside)

    def test_bounds_of_sets(self):
        for many in range(-2, 84):
            for size in range(-2, 45):
                with self.subTest((many, size)):
                    self.assertIs(is_scheme(("sets", many, size)), size >= 1 and 2 * size <= many <= 80)

    def test_bounds_of_rows_and_of_listed_kinds(self):
        for many in range(1, 28):
            with self.subTest(many):
                self.assertIs(is_scheme(samples.circle(many, lambda distance: min(distance, 1))), many <= 24)
                self.assertIs(is_scheme(samples.circle(many, lambda distance: distance)), many // 2 + 1 <= 8)
        self.assertIs(is_scheme(samples.CUBE_OF_KINDS), True)

    def test_bound_of_parts(self):
        # A product has two trees, so the number of parts is odd: 7 is the greatest that is allowed, 9 the next one.
        one, two, three = (samples.chain([samples.ONE_POINT] * many) for many in (1, 2, 3))
        for tree, parts in ((one, 1), (two, 3), (three, 5), (("product", one, three), 7), (("product", three, one), 7),
                            (("product", two, two), 7)):
            self.assertIs(is_scheme(tree), True)
            self.assertEqual(part_count(tree), parts)
        for tree in (("product", two, three), ("product", three, two), ("product", three, three)):
            self.assertIs(is_scheme(tree), False)

    def test_deep_trees_answer(self):
        for levels in (5, 100, 1000, 100000):
            self.assertIs(is_scheme(samples.deep(levels)), False)
            with self.assertRaises(InvalidScheme):
                checked(("product", samples.PAIR, samples.deep(levels)))

    def test_a_tree_of_shared_parts_answers(self):
        tree = samples.PAIR
        for _ in range(200):
            tree = ("product", tree, tree)
        self.assertIs(is_scheme(tree), False)

    def test_bound_of_kinds(self):
        # 61 is a prime above all kinds of one part, so 60 is followed by 62.
        for one, other, inside in ((5, 9, True), (9, 5, True), (1, 29, True), (2, 19, True), (1, 30, False),
                                   (6, 8, False), (30, 1, False), (40, 40, False)):
            tree = ("product", ("words", one, 2), ("words", other, 2))
            with self.subTest(tree):
                self.assertIs(is_scheme(tree), inside)
        self.assertEqual(kind_count(("product", ("words", 5, 2), ("words", 9, 2))), 60)
        self.assertEqual(kind_count(("product", samples.chain([("words", 4, 2), ("words", 2, 2)]), ("sets", 6, 3))), 60)
        self.assertIs(is_scheme(("product", samples.chain([("words", 4, 2), ("words", 2, 2)]), ("sets", 8, 4))), False)

    def test_bound_of_points(self):
        self.assertEqual(point_count(("words", 20, 1000)), 10 ** 60)
        self.assertEqual(point_count(("product", samples.ONE_POINT, ("words", 20, 1000))), 10 ** 60)
        for one, other in ((1, 19), (19, 1), (2, 18)):
            tree = ("product", ("words", one, 1000), ("words", other, 1000))
            self.assertEqual(point_count(tree), 10 ** 60)
            self.assertIs(is_scheme(("product", tree, samples.ONE_POINT)), True)
            self.assertIs(is_scheme(("product", ("words", one, 1000), ("words", other + 1, 1000))), False)
        self.assertEqual(point_count(("words", 40, 31)), 31 ** 40)
        self.assertIs(is_scheme(("words", 40, 32)), False)
        self.assertIs(is_scheme(("product", ("words", 20, 1000), ("words", 1, 2))), False)
        self.assertIs(is_scheme(("product", ("words", 1, 2), ("words", 20, 1000))), False)

    def test_all_tables_of_four_points(self):
        found = 0
        for cells in product(range(4), repeat=6):
            a, b, c, d, e, f = cells
            rows = [[0, a, b, c], [a, 0, d, e], [b, d, 0, f], [c, e, f, 0]]
            expected = samples.is_table_of_scheme(rows)
            self.assertIs(is_scheme(("listed", rows)), expected, rows)
            found += expected
        # One kind; two pairs by one kind and all else by the other; three kinds of two pairs each, in any order.
        self.assertEqual(found, 1 + 3 * 2 + 6)

    def test_tables_with_one_cell_changed(self):
        for tree in (samples.PENTAGON, samples.TRIANGLE_PAIR, samples.CUBE_OF_KINDS):
            for x, y in product(range(len(tree[1])), repeat=2):
                for kind in range(9):
                    rows = [list(row) for row in tree[1]]
                    rows[x][y] = kind
                    self.assertIs(is_scheme(("listed", rows)), kind == tree[1][x][y], rows)

    def test_tables_with_a_pair_of_cells_changed(self):
        for tree in (samples.PENTAGON, samples.TRIANGLE_PAIR, samples.ROWS_24):
            for x, y in product(range(len(tree[1])), repeat=2):
                rows = [list(row) for row in tree[1]]
                rows[x][y] = rows[y][x] = 2 if rows[x][y] == 1 else 1
                self.assertIs(is_scheme(("listed", rows)), samples.is_table_of_scheme(rows), rows)


class Counts(unittest.TestCase):
    def test_points_and_kinds(self):
        for tree in samples.SMALL:
            with self.subTest(tree):
                self.assertEqual(point_count(tree), len(samples.points_told(tree)))
                self.assertEqual(kind_count(tree), samples.kinds_told(tree))

    def test_kinds_of_many_points(self):
        for tree in samples.MANY_POINTS:
            with self.subTest(tree):
                self.assertEqual(kind_count(tree), samples.kinds_told(tree))

    def test_points_of_many(self):
        self.assertEqual(point_count(("sets", 80, 40)), 107507208733336176461620)
        self.assertEqual(point_count(("words", 40, 2)), 2 ** 40)
        self.assertEqual(point_count(("product", ("sets", 20, 4), ("words", 3, 10))), 4845 * 1000)

    def test_parts(self):
        self.assertEqual(part_count(("words", 3, 2)), 1)
        self.assertEqual(part_count(("product", samples.PAIR, ("product", samples.PAIR, ("sets", 4, 2)))), 5)


class Checked(unittest.TestCase):
    def test_lists_become_tuples_also_within(self):
        rows = [[0, 1], [1, 0]]
        for listed in (("listed", rows), ("listed", tuple(rows)), ("listed", [tuple(row) for row in rows])):
            self.assertEqual(checked(listed), samples.PAIR)
            tree = ("product", ("product", ("words", 1, 2), listed), listed)
            expected = ("product", ("product", ("words", 1, 2), samples.PAIR), samples.PAIR)
            self.assertEqual(checked(tree), expected)
            self.assertIs(type(checked(tree)[2][1][0]), tuple)

    def test_what_is_returned_does_not_change_with_the_argument(self):
        rows = [[0, 1], [1, 0]]
        tree = ("product", ("listed", rows), ("words", 1, 2))
        found = checked(tree)
        rows[0][1] = 7
        rows.append([1, 1])
        self.assertEqual(found, ("product", samples.PAIR, ("words", 1, 2)))


if __name__ == "__main__":
    unittest.main()
