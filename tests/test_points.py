"""The points of schemes and the kinds of two of them (points 2, 3, 6 and 7)."""

import unittest

from schemebound.errors import InvalidQuestion, UnknownPoint
from schemebound.schemes import (
    check_point, kind_count, kind_of, kind_table, point_count, point_of_set, point_of_word, set_at, word_at,
)

import samples

WORDS = ("words", 3, 10)
SETS = ("sets", 6, 3)
OTHERS = (samples.PENTAGON, ("product", WORDS, ("words", 1, 2)), ("product", SETS, samples.ONE_POINT))


class Kinds(unittest.TestCase):
    def test_kinds_of_all_pairs(self):
        for tree in samples.SMALL:
            told = samples.points_told(tree)
            with self.subTest(tree):
                expected = tuple(tuple(samples.kind_told(tree, one, other) for other in told) for one in told)
                if len(told) <= 100:
                    self.assertEqual(kind_table(tree), expected)
                for x in range(0, len(told), 1 + len(told) // 20):
                    for y in range(len(told)):
                        self.assertEqual(kind_of(tree, x, y), expected[x][y])

    def test_tables_are_those_of_schemes(self):
        for tree in samples.SMALL:
            if point_count(tree) <= 30:
                table = kind_table(tree)
                with self.subTest(tree):
                    self.assertTrue(samples.is_table_of_scheme(table))
                    self.assertEqual(1 + max(map(max, table)), kind_count(tree))

    def test_kinds_of_many_points(self):
        for tree in samples.MANY_POINTS:
            last = point_count(tree) - 1
            with self.subTest(tree):
                self.assertEqual((kind_of(tree, 0, 0), kind_of(tree, last, last)), (0, 0))
                if tree[0] != "product":
                    self.assertEqual(kind_of(tree, 0, last), kind_count(tree) - 1)
        self.assertEqual(kind_of(("words", 20, 1000), 10 ** 60 - 1, 10 ** 60 - 1000 ** 2), 2)
        self.assertEqual(kind_of(("sets", 80, 40), 0, 1), 1)
        tree = ("product", ("words", 8, 1000), ("product", samples.PENTAGON, ("words", 1, 7)))
        self.assertEqual(kind_of(tree, 5 * 35 + 3 * 7 + 2, 1000 * 35 + 1 * 7 + 2), 2 * 6 + 2 * 2 + 0)

    def test_a_product_in_both_orders(self):
        one, other = ("words", 2, 3), samples.PENTAGON
        for x in range(9):
            for y in range(5):
                first, second = kind_of(one, 4, x), kind_of(other, 3, y)
                self.assertEqual(kind_of(("product", one, other), 4 * 5 + 3, x * 5 + y), first * 3 + second)
                self.assertEqual(kind_of(("product", other, one), 3 * 9 + 4, y * 9 + x), second * 3 + first)

    def test_the_table_is_of_tuples_and_for_a_hundred_points(self):
        for tree in (("listed", [[0, 1], [1, 0]]), ("words", 2, 10), ("sets", 80, 1), ("sets", 14, 2),
                     ("product", ("words", 1, 10), ("words", 1, 10)), ("product", samples.PENTAGON, ("words", 1, 20))):
            table = kind_table(tree)
            with self.subTest(tree):
                self.assertIs(type(table), tuple)
                self.assertEqual({type(row) for row in table}, {tuple})
                self.assertEqual(len(table), point_count(tree))
        for tree in (("words", 1, 101), ("sets", 15, 2), ("product", ("words", 1, 17), ("words", 1, 6)),
                     ("words", 20, 1000)):
            with self.subTest(tree), self.assertRaises(InvalidQuestion):
                kind_table(tree)


class UnknownPoints(unittest.TestCase):
    def test_the_least_and_the_greatest_point(self):
        for tree in samples.SMALL + samples.MANY_POINTS:
            many = point_count(tree)
            with self.subTest(tree):
                self.assertIsNone(check_point(tree, 0))
                self.assertIsNone(check_point(tree, many - 1))
                for point in (-1, many, many + 1, -many, 10 ** 61, 10 ** 5000):
                    for call in (lambda: check_point(tree, point), lambda: kind_of(tree, point, 0),
                                 lambda: kind_of(tree, 0, point)):
                        with self.assertRaises(UnknownPoint) as caught:
                            call()
                        self.assertEqual(caught.exception.point, point)

    def test_of_several_the_first_one(self):
        for x, y in ((9, -1), (-1, 9), (8, 9), (-2, -1)):
            with self.assertRaises(UnknownPoint) as caught:
                kind_of(("words", 3, 2), x, y)
            self.assertEqual(caught.exception.point, x)

    def test_points_of_words_and_sets(self):
        for call, tree in ((word_at, WORDS), (set_at, SETS), (word_at, ("words", 20, 1000)), (set_at, ("sets", 80, 40))):
            for point in (-1, point_count(tree)):
                with self.subTest(tree), self.assertRaises(UnknownPoint) as caught:
                    call(tree, point)
                self.assertEqual(caught.exception.point, point)


class WordsAndSets(unittest.TestCase):
    def test_all_words(self):
        for tree in (WORDS, ("words", 1, 1000), ("words", 6, 2), ("words", 4, 3)):
            for point, word in enumerate(samples.points_told(tree)):
                self.assertEqual(word_at(tree, point), word)
                self.assertEqual(point_of_word(tree, word), point)
                self.assertEqual(point_of_word(tree, list(word)), point)

    def test_all_sets(self):
        for tree in (SETS, ("sets", 80, 1), ("sets", 9, 4), ("sets", 2, 1), ("sets", 10, 2), ("sets", 8, 4)):
            for point, members in enumerate(samples.points_told(tree)):
                self.assertEqual(set_at(tree, point), members)
                self.assertEqual(point_of_set(tree, members), point)
                self.assertEqual(point_of_set(tree, list(members[::-1])), point)

    def test_members_in_whatever_order(self):
        self.assertEqual({point_of_set(SETS, members) for members in
                          ([4, 1, 2], (4, 2, 1), [1, 4, 2], (1, 2, 4), [2, 1, 4], (2, 4, 1))}, {11})

    def test_the_greatest_schemes(self):
        words, sets = ("words", 20, 1000), ("sets", 80, 40)
        last = point_count(sets) - 1
        self.assertEqual(word_at(words, 0), (0,) * 20)
        self.assertEqual(word_at(words, 10 ** 60 - 1), (999,) * 20)
        self.assertEqual(word_at(words, 10 ** 57), (1,) + (0,) * 19)
        self.assertEqual(point_of_word(words, [999] * 20), 10 ** 60 - 1)
        self.assertEqual(point_of_word(words, [0] * 19 + [1]), 1)
        self.assertEqual(set_at(sets, 0), tuple(range(40)))
        self.assertEqual(set_at(sets, last), tuple(range(40, 80)))
        self.assertEqual(point_of_set(sets, range_list(79, 39)), last)
        self.assertEqual(point_of_set(sets, range_list(39, -1)), 0)
        for point in (1, 7 ** 20, 10 ** 22 + 1, last // 2, last - 1):
            self.assertEqual(point_of_set(sets, set_at(sets, point)), point)
            self.assertEqual(point_of_word(words, word_at(words, point)), point)

    def test_what_is_no_word(self):
        for word in ([], [1, 2], [1, 2, 3, 4], [10, 0, 0], [0, 0, 10], [-1, 0, 0], [0, 0, -1], (0, 10 ** 60, 0)):
            with self.subTest(word), self.assertRaises(InvalidQuestion):
                point_of_word(WORDS, word)

    def test_what_is_no_set(self):
        for members in ([], [1, 2], [1, 2, 3, 4], [1, 1, 2], [2, 1, 2], [0, 1, 6], [6, 1, 0], [-1, 0, 1], (5, 0, -6)):
            with self.subTest(members), self.assertRaises(InvalidQuestion):
                point_of_set(SETS, members)

    def test_another_sort_ahead_of_the_point(self):
        for tree in OTHERS + (SETS,):
            for point in (0, -1, 10 ** 60):
                with self.subTest(tree), self.assertRaises(InvalidQuestion):
                    word_at(tree, point)
            with self.subTest(tree), self.assertRaises(InvalidQuestion):
                point_of_word(tree, [0, 1, 2])
        for tree in OTHERS + (WORDS,):
            for point in (0, -1, 10 ** 60):
                with self.subTest(tree), self.assertRaises(InvalidQuestion):
                    set_at(tree, point)
            with self.subTest(tree), self.assertRaises(InvalidQuestion):
                point_of_set(tree, [0, 1, 2])

    def test_tuples_are_returned(self):
        self.assertIs(type(word_at(WORDS, 5)), tuple)
        self.assertIs(type(set_at(SETS, 5)), tuple)


def range_list(start, stop):
    """The descending list from start to above stop."""
    return list(range(start, stop, -1))


if __name__ == "__main__":
    unittest.main()
