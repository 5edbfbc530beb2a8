"""Perfect lots, balls, the reach and loud spaces (points 92 to 97, and 102)."""

import copy
import random
import unittest
from itertools import combinations

from schemebound.eigenvalues import eigenvalues
from schemebound.errors import InvalidLot, InvalidQuestion, InvalidScheme, UnknownPoint
from schemebound.lots import dual_shares, silent_spaces
from schemebound.perfect import (
    ball_divides, ball_size, ball_zeros, can_be_perfect, is_perfect, loud_spaces, reach,
)
from schemebound.schemes import kind_count, kind_of, kind_table, point_count, point_of_set, point_of_word
from schemebound.summing import right_angles, spanned

import samples

ORDERED = (
    ("words", 1, 2), ("words", 1, 5), ("words", 2, 2), ("words", 3, 2), ("words", 4, 2), ("words", 2, 3), ("words", 3, 3),
    ("words", 2, 5), ("words", 5, 2), ("words", 6, 2), ("sets", 2, 1), ("sets", 4, 2), ("sets", 5, 2), ("sets", 6, 3),
    ("sets", 7, 3), ("sets", 8, 2), ("sets", 12, 1), ("sets", 8, 4),
)
GREAT = (("words", 40, 31), ("words", 20, 1000), ("sets", 80, 40), ("sets", 80, 3), ("words", 40, 2))
OTHERS = (samples.PAIR, samples.PENTAGON, samples.CUBE_OF_KINDS, samples.ONE_POINT, ("product", ("words", 2, 2), ("sets", 4, 2)),
          ("product", samples.ONE_POINT, ("words", 3, 2)))
NO_SCHEMES = (("words", 0, 2), ("words", 40, 1000), ("sets", 3, 2), samples.NINE_KINDS, ())
OF_A_RADIUS = (ball_size, ball_divides, ball_zeros, can_be_perfect)
# The points that three words of seven figures span with the fourth one: each two of them are unlike at three places or more.
HAMMING = spanned(("words", 7, 2), [0b1000011, 0b0100101, 0b0010110, 0b0001111])
# Of three figures by 3, twice: the points at right angles to two words.
TETRACODE = right_angles(("words", 4, 3), [point_of_word(("words", 4, 3), word) for word in ((1, 1, 1, 0), (0, 1, 2, 1))])


def product_of_four(one, other):
    """The product of two of the four numbers of which 1 + 1 is 0, told as 0 to 3."""
    return 0 if not one or not other else 1 + (one - 1 + other - 1) % 3


def hamming_of_four():
    """The 64 words of five figures by 4 that two conditions over the field of four leave: a perfect lot of radius 1."""
    tree, found = ("words", 5, 4), []
    for x in range(4):
        for y in range(4):
            for z in range(4):
                # The sum of these numbers is told by the exclusive or.
                first = x ^ y ^ z
                second = x ^ product_of_four(2, y) ^ product_of_four(3, z)
                found.append(point_of_word(tree, (x, y, z, first, second)))
    return found


KNOWN = (
    (("words", 7, 2), HAMMING, 1), (("words", 4, 3), TETRACODE, 1), (("words", 5, 4), hamming_of_four(), 1),
    (("words", 3, 2), [0, 7], 1), (("words", 3, 2), (5, 2), 1), (("words", 5, 2), [0, 31], 2), (("words", 9, 2), [0, 511], 4),
    (("words", 39, 2), [0, 2 ** 39 - 1], 19), (("words", 1, 2), [1], 1), (("words", 20, 1000), [7 ** 60], 20),
    (("sets", 6, 3), [0, 19], 1), (("sets", 10, 5), [0, 251], 2), (("sets", 2, 1), [0], 1), (("sets", 2, 1), [0, 1], 0),
    (("sets", 80, 40), [9], 40), (("words", 4, 2), list(range(16)), 0), (("sets", 7, 3), list(range(35))[::-1], 0),
)


def some_lots(tree, chance, many=6):
    """Some lots of a scheme, of one point, of all points as far as these are at most 500, and others."""
    points = point_count(tree)
    sizes = [1, min(2, points), min(points, 500)] + [chance.randrange(1, min(points, 60) + 1) for _ in range(many)]
    return [chance.sample(range(points), size) for size in sizes]


def balls_around(table, lot, radius):
    """For each point, how many points of a lot have it in their balls."""
    return [len([x for x in lot if row[x] <= radius]) for row in table]


class Balls(unittest.TestCase):
    def test_sizes_by_counting(self):
        for tree in ORDERED:
            table = kind_table(tree)
            for radius in range(kind_count(tree)):
                sizes = {len([kind for kind in row if kind <= radius]) for row in table}
                self.assertEqual({ball_size(tree, radius)}, sizes)
                self.assertIs(ball_divides(tree, radius), len(table) % ball_size(tree, radius) == 0)

    def test_the_least_and_the_greatest_radius(self):
        for tree in ORDERED + GREAT:
            last = kind_count(tree) - 1
            with self.subTest(tree):
                self.assertEqual((ball_size(tree, 0), ball_size(tree, last)), (1, point_count(tree)))
                self.assertEqual((ball_zeros(tree, 0), ball_zeros(tree, last)), ([], list(range(1, last + 1))))
                for radius in (0, last):
                    self.assertIs(ball_divides(tree, radius), True)
                    self.assertIs(can_be_perfect(tree, radius), True)

    def test_known_sizes(self):
        for tree, radius, size, divides in (
                (("words", 7, 2), 1, 8, True), (("words", 23, 2), 3, 2048, True), (("words", 6, 2), 1, 7, False),
                (("words", 11, 3), 2, 243, True), (("sets", 80, 40), 1, 1601, False), (("words", 20, 1000), 1, 19981, False),
                (("sets", 16, 3), 1, 40, True), (("words", 4, 21), 1, 81, True)):
            self.assertEqual((ball_size(tree, radius), ball_divides(tree, radius)), (size, divides))

    def test_two_balls_that_have_a_point_in_common(self):
        for tree in (("words", 4, 2), ("words", 3, 3), ("sets", 6, 3), ("sets", 8, 4), ("sets", 7, 3)):
            table = kind_table(tree)
            for radius in range(kind_count(tree)):
                for x, y in combinations(range(0, len(table), 3), 2):
                    common = any(one <= radius and other <= radius for one, other in zip(table[x], table[y]))
                    self.assertIs(common, table[x][y] <= 2 * radius)

    def test_ball_values(self):
        for tree in ORDERED + GREAT[2:]:
            rows = eigenvalues(tree)
            for radius in range(kind_count(tree)):
                expected = [space for space, row in enumerate(rows) if sum(row[kind] for kind in range(radius + 1)) == 0]
                found = ball_zeros(tree, radius)
                self.assertEqual(found, expected)
                self.assertIs(type(found), list)
                self.assertLessEqual(len(found), radius)
                possible = point_count(tree) % ball_size(tree, radius) == 0 and len(expected) >= radius
                self.assertIs(can_be_perfect(tree, radius), possible)

    def test_known_zeros(self):
        self.assertEqual(ball_zeros(("words", 7, 2), 1), [4])
        self.assertEqual(ball_zeros(("words", 23, 2), 3), [8, 12, 16])
        self.assertEqual(ball_zeros(("words", 11, 3), 2), [6, 9])
        self.assertEqual(ball_zeros(("words", 6, 2), 1), [])
        self.assertEqual(ball_zeros(("words", 4, 21), 1), [])

    def test_a_ball_that_divides_the_points_is_not_enough(self):
        for tree, radius in ((("words", 4, 21), 1), (("words", 11, 15), 2), (("sets", 16, 3), 1), (("sets", 12, 4), 1)):
            self.assertEqual((ball_divides(tree, radius), can_be_perfect(tree, radius)), (True, False))

    def test_zeros_without_a_ball_that_divides(self):
        found = [(tree, radius) for tree in [("words", n, q) for n in range(1, 20) for q in range(2, 8)]
                 for radius in range(1, kind_count(tree)) if len(ball_zeros(tree, radius)) == radius
                 and not ball_divides(tree, radius)]
        self.assertTrue(found)
        for tree, radius in found:
            self.assertIs(can_be_perfect(tree, radius), False)

    def test_what_can_be_perfect_and_is_not(self):
        # Known to be so: there are no two squares of order 6 that are at right angles, of which such a lot would be made.
        self.assertIs(can_be_perfect(("words", 7, 6), 1), True)


class Perfect(unittest.TestCase):
    def test_known_ones(self):
        for tree, lot, radius in KNOWN:
            with self.subTest(tree):
                self.assertIs(is_perfect(tree, lot, radius), True)
                self.assertEqual(len(lot) * ball_size(tree, radius), point_count(tree))
                self.assertIs(can_be_perfect(tree, radius), True)
                for other in range(kind_count(tree)):
                    self.assertIs(is_perfect(tree, list(lot), other), other == radius)

    def test_a_point_less_or_moved(self):
        for tree, lot, radius in KNOWN:
            many = point_count(tree)
            if len(lot) > 1:
                self.assertIs(is_perfect(tree, lot[1:], radius), False)
                self.assertIs(is_perfect(tree, lot[:-1], radius), False)
            if 1 < len(lot) < many:
                other = next(point for point in range(many) if point not in lot)
                self.assertIs(is_perfect(tree, [other] + list(lot[1:]), radius), False)
                self.assertIs(is_perfect(tree, [other] + list(lot), radius), False)

    def test_by_the_words_of_the_document(self):
        chance = random.Random(93)
        outcomes = []
        for tree in ORDERED:
            table = kind_table(tree)
            for lot in some_lots(tree, chance):
                for radius in range(kind_count(tree)):
                    expected = set(balls_around(table, lot, radius)) == {1}
                    self.assertIs(is_perfect(tree, lot, radius), expected, (tree, lot, radius))
                    outcomes.append(expected)
        self.assertGreater(min(outcomes.count(True), outcomes.count(False)), 20)

    def test_all_lots_of_small_schemes(self):
        for tree in (("words", 3, 2), ("words", 2, 3), ("sets", 4, 2), ("sets", 5, 1), ("words", 2, 2), ("sets", 5, 2)):
            table = kind_table(tree)
            for size in range(1, len(table) + 1):
                for lot in combinations(range(len(table)), size):
                    for radius in range(kind_count(tree)):
                        self.assertIs(is_perfect(tree, lot, radius), set(balls_around(table, lot, radius)) == {1})

    def test_the_right_number_of_points_is_not_enough(self):
        self.assertIs(is_perfect(("words", 3, 2), [0, 3], 1), False)
        self.assertIs(is_perfect(("words", 3, 2), [0, 6], 1), False)
        self.assertIs(is_perfect(("words", 7, 2), list(range(16)), 1), False)
        self.assertIs(is_perfect(("sets", 6, 3), [0, 1], 1), False)

    def test_five_hundred_points_and_one_more(self):
        self.assertIs(is_perfect(("words", 1, 500), list(range(500)), 0), True)
        self.assertIs(is_perfect(("words", 1, 501), list(range(500)), 0), False)
        with self.assertRaises(InvalidLot):
            is_perfect(("words", 1, 501), list(range(501)), 0)


class Reach(unittest.TestCase):
    def test_by_the_words_of_the_document(self):
        chance = random.Random(96)
        seen = set()
        for tree in ORDERED + (("sets", 9, 4), ("words", 3, 4), ("words", 2, 9)):
            many = point_count(tree)
            for lot in some_lots(tree, chance):
                expected = max(min(kind_of(tree, x, y) for y in lot[:40]) for x in range(many)) if len(lot) <= 40 else None
                found = reach(tree, lot)
                if expected is not None:
                    self.assertEqual(found, expected, (tree, lot))
                self.assertEqual(reach(tree, tuple(lot[::-1])), found)
                seen.add(found)
        self.assertLessEqual({0, 1, 2, 3, 4, 5, 6}, seen)

    def test_one_point_and_all_points(self):
        for tree in ORDERED + (("words", 12, 2), ("sets", 32, 3), ("words", 1, 1000), ("sets", 80, 2)):
            many = point_count(tree)
            for point in (0, many - 1, many // 2):
                self.assertEqual(reach(tree, [point]), kind_count(tree) - 1)
            if many <= 500:
                self.assertEqual(reach(tree, list(range(many))), 0)
                self.assertEqual(reach(tree, list(range(many))[1:]), 1)

    def test_perfect_lots(self):
        for tree, lot, radius in KNOWN:
            if point_count(tree) <= 5000:
                self.assertEqual(reach(tree, lot), radius)
                if len(lot) > 1:
                    self.assertGreater(reach(tree, lot[1:]), radius)

    def test_lots_of_far_points(self):
        # No two points have a distance up to 2 r: the reach is r exactly if the lot is perfect.
        chance = random.Random(97)
        for tree in ORDERED:
            for lot in some_lots(tree, chance, 10):
                if len(lot) <= 40:
                    least = min((kind_of(tree, x, y) for x, y in combinations(lot, 2)), default=kind_count(tree) * 2)
                    for radius in range(min((least + 1) // 2, kind_count(tree))):
                        self.assertIs(reach(tree, lot) == radius, is_perfect(tree, lot, radius))

    def test_how_many_points_a_scheme_can_have(self):
        for tree in (("sets", 32, 3), ("words", 3, 17), ("words", 2, 70), ("sets", 20, 4), ("words", 12, 2)):
            self.assertLessEqual(point_count(tree), 5000)
            self.assertEqual(reach(tree, [0]), kind_count(tree) - 1)
        for tree in (("sets", 15, 6), ("words", 2, 71), ("words", 13, 2), ("sets", 33, 3), ("words", 20, 1000)):
            self.assertGreater(point_count(tree), 5000)
            with self.subTest(tree), self.assertRaises(InvalidQuestion):
                reach(tree, [0])
        self.assertEqual((point_count(("sets", 32, 3)), point_count(("sets", 15, 6))), (4960, 5005))

    def test_lots_of_five_hundred_points(self):
        # The last three figures are 0, and of the first nine all choices but a few stand in the lot.
        self.assertEqual(reach(("words", 12, 2), [8 * at for at in range(500)]), 4)
        self.assertEqual(reach(("words", 3, 17), list(range(500))), 1)
        self.assertEqual(reach(("words", 2, 70), [70 * at + at for at in range(70)]), 1)
        self.assertEqual(reach(("sets", 32, 3), [point_of_set(("sets", 32, 3), (0, 1, at)) for at in range(2, 32)]), 2)

    def test_it_is_at_most_the_number_of_loud_spaces(self):
        chance = random.Random(98)
        for tree in ORDERED:
            for lot in some_lots(tree, chance):
                self.assertLessEqual(reach(tree, lot), len(loud_spaces(tree, lot)))


class Loud(unittest.TestCase):
    def test_spaces_that_are_not_silent(self):
        chance = random.Random(99)
        for tree in samples.SMALL + samples.LISTED_WHOLE:
            if samples.has_whole_eigenvalues(tree):
                for lot in some_lots(tree, chance, 3):
                    found = loud_spaces(tree, lot)
                    duals = dual_shares(tree, lot)
                    self.assertEqual(found, [space for space in range(1, len(duals)) if duals[space][0] > 0])
                    self.assertEqual(sorted(found + silent_spaces(tree, lot)), list(range(1, len(duals))))
                    self.assertIs(type(found), list)

    def test_known_ones(self):
        self.assertEqual(loud_spaces(("words", 7, 2), HAMMING), [4])
        self.assertEqual(loud_spaces(("words", 3, 2), [0, 7]), [2])
        self.assertEqual(loud_spaces(("words", 3, 2), list(range(8))), [])
        self.assertEqual(loud_spaces(("words", 20, 1000), [5]), list(range(1, 21)))
        self.assertEqual(loud_spaces(samples.ONE_POINT, [0]), [])
        self.assertEqual(loud_spaces(("product", samples.PAIR, ("words", 1, 3)), [0, 1, 2]), [2])

    def test_eigenvalues_that_are_no_integers(self):
        for tree in (samples.PENTAGON, samples.EIGHT_KINDS, ("product", ("words", 2, 2), samples.PENTAGON)):
            for lot, error in (([0], InvalidQuestion), ([0, 1], InvalidQuestion), ([0, 0], InvalidLot), ([], InvalidLot),
                               ([0, 0, -1], UnknownPoint)):
                with self.subTest(tree), self.assertRaises(error):
                    loud_spaces(tree, lot)


class Errors(unittest.TestCase):
    def test_radii_out_of_the_bounds(self):
        for tree in ORDERED + GREAT:
            for radius in (-1, kind_count(tree), kind_count(tree) + 1, -kind_count(tree), 10 ** 60):
                for call in OF_A_RADIUS:
                    with self.subTest(tree), self.assertRaises(InvalidQuestion):
                        call(tree, radius)
                with self.subTest(tree), self.assertRaises(InvalidQuestion):
                    is_perfect(tree, [0], radius)

    def test_schemes_of_another_sort(self):
        for tree in OTHERS:
            for radius in (0, 1, -1, 99):
                for call in OF_A_RADIUS:
                    with self.subTest(tree), self.assertRaises(InvalidQuestion):
                        call(tree, radius)
                with self.subTest(tree), self.assertRaises(InvalidQuestion):
                    is_perfect(tree, [0], radius)
            with self.subTest(tree), self.assertRaises(InvalidQuestion):
                reach(tree, [0])

    def test_what_is_no_scheme_ahead_of_all(self):
        for tree in NO_SCHEMES:
            for call in OF_A_RADIUS:
                for radius in (0, -1):
                    with self.subTest(tree), self.assertRaises(InvalidScheme):
                        call(tree, radius)
            for lot in ([], [-1], [0, 0], [0]):
                for call in (lambda: is_perfect(tree, lot, -1), lambda: reach(tree, lot), lambda: loud_spaces(tree, lot)):
                    with self.subTest(tree), self.assertRaises(InvalidScheme):
                        call()

    def test_the_lot_ahead_of_the_question(self):
        for tree in (("words", 3, 2), ("sets", 8, 1), ("words", 1, 600), ("words", 13, 2)) + OTHERS[1:3]:
            many = point_count(tree)
            for call in (lambda lot: is_perfect(tree, lot, -1), lambda lot: reach(tree, lot), lambda lot: loud_spaces(tree, lot),
                         lambda lot: is_perfect(tree, lot, 0)):
                for lot, point in (([-1], -1), ([many], many), ([0, 0, many, -1], many), ([1, 1, 10 ** 60], 10 ** 60)):
                    with self.subTest(tree, lot=lot), self.assertRaises(UnknownPoint) as caught:
                        call(lot)
                    self.assertEqual(caught.exception.point, point)
                for lot in ([], (), [0, 0], [1, 2, 1]) + (([*range(501)],) if many > 500 else ()):
                    with self.subTest(tree), self.assertRaises(InvalidLot):
                        call(lot)

    def test_arguments_stay_as_they_were(self):
        tree, lot = ("words", 3, 2), [7, 0]
        kept = copy.deepcopy(lot)
        answers = []
        for _ in range(2):
            answers.append((is_perfect(tree, lot, 1), reach(tree, lot), loud_spaces(tree, lot), ball_zeros(tree, 1)))
            loud_spaces(tree, lot).append(9)
            ball_zeros(tree, 1).append(9)
            self.assertEqual(lot, kept)
        self.assertEqual(answers, [(True, 1, [2], [2])] * 2)
        self.assertEqual({type(ball_size(tree, 1)), type(reach(tree, lot))}, {int})


if __name__ == "__main__":
    unittest.main()
