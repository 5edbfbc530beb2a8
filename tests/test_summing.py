"""Points of words added, lots that hold sums, and points at right angles (points 51 to 56)."""

import copy
import random
import unittest
from itertools import product

from schemebound.errors import InvalidLot, InvalidQuestion, TooMany, UnknownPoint
from schemebound.lots import dual_shares, is_even, shares
from schemebound.schemes import point_count, point_of_word, word_at
from schemebound.summing import holds_sums, moved, right_angles, spanned

import samples

WORDS = (("words", 1, 2), ("words", 3, 2), ("words", 5, 2), ("words", 2, 3), ("words", 3, 3), ("words", 2, 4),
         ("words", 3, 4), ("words", 2, 6), ("words", 1, 12), ("words", 2, 5))
GREAT = (("words", 20, 1000), ("words", 40, 31), ("words", 40, 2))
OTHERS = (("sets", 8, 3), ("sets", 12, 1), samples.CUBE_OF_KINDS, samples.PENTAGON,
          ("product", ("words", 2, 2), ("words", 2, 2)), ("product", samples.ONE_POINT, ("words", 3, 2)))
FUNCTIONS = (lambda tree, lot: moved(tree, lot, 0), holds_sums, spanned, right_angles)


def added(tree, x, y):
    """The sum of two points, by point 51."""
    figures = [(a + b) % tree[2] for a, b in zip(word_at(tree, x), word_at(tree, y))]
    return point_of_word(tree, figures)


def told_span(tree, lot):
    """All points that a lot spans, found by adding its points as long as something new comes."""
    found = {0}
    waiting = [0]
    while waiting:
        x = waiting.pop()
        for y in lot:
            z = added(tree, x, y)
            if z not in found:
                found.add(z)
                waiting.append(z)
    return tuple(sorted(found))


def at_right_angles(tree, x, y):
    """Whether a point is at right angles to another one, by point 53."""
    return sum(a * b for a, b in zip(word_at(tree, x), word_at(tree, y))) % tree[2] == 0


def some_lots(tree, chance, many=12):
    """Some lots of a scheme, small ones more often."""
    points = point_count(tree)
    sizes = [1, 1, points] + [chance.randrange(1, min(points, chance.choice((3, 5, 12))) + 1) for _ in range(many)]
    return [chance.sample(range(points), size) for size in sizes]


class Moving(unittest.TestCase):
    def test_moved_lots(self):
        chance = random.Random(51)
        for tree in WORDS:
            for lot in some_lots(tree, chance):
                point = chance.randrange(point_count(tree))
                found = moved(tree, lot, point)
                self.assertEqual(found, tuple(sorted(added(tree, x, point) for x in lot)))
                self.assertEqual(shares(tree, found), shares(tree, lot))
                self.assertEqual(moved(tree, lot, 0), tuple(sorted(lot)))

    def test_great_schemes(self):
        for tree in GREAT:
            last = point_count(tree) - 1
            self.assertEqual(moved(tree, [last, 0], last), tuple(sorted([added(tree, last, last), last])))
        self.assertEqual(moved(("words", 20, 1000), [10 ** 60 - 1], 1), (10 ** 60 - 1000,))

    def test_a_point_that_is_none(self):
        tree = ("words", 3, 2)
        for point in (-1, 8, 10 ** 60):
            with self.assertRaises(UnknownPoint) as caught:
                moved(tree, [0, 3], point)
            self.assertEqual(caught.exception.point, point)
            with self.assertRaises(InvalidLot):
                moved(tree, [3, 3], point)
            with self.assertRaises(UnknownPoint) as caught:
                moved(tree, [3, 9, 3], point)
            self.assertEqual(caught.exception.point, 9)
            for other in OTHERS:
                wrong = point if point < 0 else point * 10 ** 4
                with self.assertRaises(UnknownPoint) as caught:
                    moved(other, [0, 3], wrong)
                self.assertEqual(caught.exception.point, wrong)


class Sums(unittest.TestCase):
    def test_all_lots_of_small_schemes(self):
        for tree in (("words", 3, 2), ("words", 2, 3), ("words", 1, 6), ("words", 1, 8)):
            found = 0
            many = point_count(tree)
            for inside in product((False, True), repeat=many):
                lot = [point for point in range(many) if inside[point]]
                if lot:
                    expected = all(added(tree, x, y) in lot for x in lot for y in lot)
                    self.assertIs(holds_sums(tree, lot), expected, (tree, lot))
                    found += expected
            self.assertEqual(found, {2: 16, 3: 6, 6: 4, 8: 4}[tree[2]])

    def test_spanned_points(self):
        chance = random.Random(52)
        for tree in WORDS:
            for lot in some_lots(tree, chance):
                expected = told_span(tree, lot)
                self.assertEqual(spanned(tree, lot), expected)
                self.assertTrue(holds_sums(tree, expected))
                self.assertTrue(is_even(tree, expected))
                self.assertIs(holds_sums(tree, lot), tuple(sorted(lot)) == expected)
                self.assertEqual(spanned(tree, expected), expected)

    def test_point_zero_alone_and_all_points(self):
        for tree in WORDS + GREAT:
            self.assertIs(holds_sums(tree, [0]), True)
            self.assertIs(holds_sums(tree, [1]), False)
            self.assertEqual(spanned(tree, [0]), (0,))
            self.assertEqual(spanned(tree, [0], limit=1), (0,))
            with self.assertRaises(TooMany) as caught:
                spanned(tree, [0], limit=0)
            self.assertEqual(caught.exception.limit, 0)
        for tree in WORDS:
            self.assertIs(holds_sums(tree, list(range(point_count(tree)))[::-1]), True)
            self.assertEqual(spanned(tree, list(range(point_count(tree)))), tuple(range(point_count(tree))))

    def test_the_limit_is_the_number_of_points_spanned(self):
        chance = random.Random(53)
        for tree in WORDS:
            for lot in some_lots(tree, chance, 5):
                expected = told_span(tree, lot)
                self.assertEqual(spanned(tree, lot, limit=len(expected)), expected)
                for limit in {len(expected) - 1, 0}:
                    with self.assertRaises(TooMany) as caught:
                        spanned(tree, lot, limit=limit)
                    self.assertEqual(caught.exception.limit, limit)

    def test_the_limit_that_is_not_told(self):
        self.assertEqual(len(spanned(("words", 1, 500), [1])), 500)
        self.assertEqual(len(spanned(("words", 40, 2), [1 << at for at in range(8)])), 256)
        for tree, lot in ((("words", 1, 501), [1]), (("words", 40, 2), [1 << at for at in range(9)]),
                          (("words", 20, 1000), [1]), (("words", 20, 1000), list(range(500)))):
            with self.assertRaises(TooMany) as caught:
                spanned(tree, lot)
            self.assertEqual(caught.exception.limit, 500)

    def test_many_points_spanned(self):
        self.assertEqual(spanned(("words", 16, 2), [1 << at for at in range(16)], limit=2 ** 16), tuple(range(2 ** 16)))
        self.assertEqual(len(spanned(("words", 20, 1000), [500, 500 * 10 ** 57, 2], limit=10 ** 5)), 1000)
        self.assertEqual(len(spanned(("words", 16, 2), list(range(500, 1000)), limit=10 ** 5)), 1024)

    def test_lots_of_five_hundred_points_of_great_schemes(self):
        multiples = [2 * at for at in range(500)]
        self.assertIs(holds_sums(("words", 20, 1000), multiples), True)
        self.assertIs(holds_sums(("words", 20, 1000), multiples[:-1] + [10 ** 59]), False)
        self.assertIs(holds_sums(("words", 40, 31), [7 ** 50 + at for at in range(500)]), False)
        self.assertEqual(len(moved(("words", 40, 31), [7 ** 50 + at for at in range(500)], 31 ** 40 - 1)), 500)


class RightAngles(unittest.TestCase):
    def test_all_points_at_right_angles(self):
        chance = random.Random(54)
        for tree in WORDS:
            for lot in some_lots(tree, chance, 6):
                found = right_angles(tree, lot)
                expected = [y for y in range(point_count(tree)) if all(at_right_angles(tree, x, y) for x in lot)]
                self.assertEqual(found, tuple(expected))
                self.assertTrue(holds_sums(tree, found))
                span = spanned(tree, lot)
                self.assertEqual(len(span) * len(found), point_count(tree))
                self.assertEqual(right_angles(tree, span), found)
                self.assertEqual(right_angles(tree, found), span)
                # Point 54: the dual shares of the lot are the shares of these points.
                self.assertEqual(dual_shares(tree, span), shares(tree, found))

    def test_point_zero_alone_and_all_points(self):
        for tree in WORDS:
            everything = tuple(range(point_count(tree)))
            self.assertEqual(right_angles(tree, [0]), everything)
            self.assertEqual(right_angles(tree, everything), (0,))

    def test_how_many_points_a_scheme_can_have(self):
        self.assertEqual(right_angles(("words", 5, 10), [0]), tuple(range(10 ** 5)))
        self.assertEqual(right_angles(("words", 5, 10), [1]), tuple(range(0, 10 ** 5, 10)))
        self.assertEqual(len(right_angles(("words", 5, 10), list(range(0, 1000, 2)))), 10 ** 5 // 500)
        self.assertEqual(right_angles(("words", 16, 2), list(range(1, 501))), tuple(range(0, 2 ** 16, 512)))
        for tree in (("words", 2, 317), ("words", 17, 2), ("words", 11, 3), ("words", 20, 1000)):
            self.assertGreater(point_count(tree), 10 ** 5)
            with self.subTest(tree), self.assertRaises(InvalidQuestion):
                right_angles(tree, [0])
        self.assertEqual(point_count(("words", 2, 316)), 99856)
        self.assertEqual(len(right_angles(("words", 2, 316), [1])), 316)


class Asking(unittest.TestCase):
    def test_schemes_of_another_sort_behind_the_lot(self):
        for tree in OTHERS:
            for call in FUNCTIONS:
                for lot, error in (([0], InvalidQuestion), ([3, 1], InvalidQuestion), ([3, 3], InvalidLot),
                                   ([], InvalidLot), ([3, -1, 3], UnknownPoint)):
                    with self.subTest(tree), self.assertRaises(error):
                        call(tree, lot)

    def test_lots_that_are_none(self):
        tree = ("words", 1, 600)
        for call in FUNCTIONS:
            for lot in ([], (), [1, 1], list(range(501)), [0, 1, 2, 0]):
                with self.assertRaises(InvalidLot):
                    call(tree, lot)
            for lot, point in (([600], 600), ([1, 1, -1], -1), (list(range(700)), 600)):
                with self.assertRaises(UnknownPoint) as caught:
                    call(tree, lot)
                self.assertEqual(caught.exception.point, point)
        self.assertEqual(moved(tree, tuple(range(500)), 100), tuple(range(100, 600)))
        self.assertIs(holds_sums(tree, list(range(500))), False)
        self.assertEqual(right_angles(tree, list(range(500))), (0,))
        self.assertEqual(len(spanned(tree, list(range(500)), limit=600)), 600)

    def test_too_many_behind_all_others(self):
        for tree, lot, error in ((("sets", 8, 3), [0], InvalidQuestion), (("words", 3, 2), [9], UnknownPoint),
                                 (("words", 3, 2), [1, 1], InvalidLot)):
            with self.assertRaises(error):
                spanned(tree, lot, limit=0)

    def test_tuples_are_returned_and_arguments_stay_as_they_were(self):
        tree, lot = ("words", 3, 3), [7, 2, 13]
        kept = copy.deepcopy(lot)
        answers = []
        for _ in range(2):
            found = (moved(tree, lot, 5), spanned(tree, lot), right_angles(tree, lot))
            self.assertEqual({type(one) for one in found}, {tuple})
            answers.append((found, holds_sums(tree, lot)))
            self.assertEqual(lot, kept)
        self.assertEqual(answers[0], answers[1])


if __name__ == "__main__":
    unittest.main()
