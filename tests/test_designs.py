"""Designs, lots that are apart, and the room beside a lot (points 98 to 102)."""

import copy
import random
import unittest
from itertools import combinations, product
from math import comb

from schemebound.designs import are_apart, design_number, is_design, room_beside
from schemebound.errors import InvalidLot, InvalidQuestion, InvalidScheme, TooMany, UnknownPoint
from schemebound.lots import dual_shares, kinds_in, strength
from schemebound.perfect import loud_spaces
from schemebound.schemes import kind_count, point_count, point_of_set, set_at, word_at
from schemebound.summing import right_angles, spanned

import samples

ORDERED = (
    ("words", 1, 2), ("words", 1, 5), ("words", 2, 2), ("words", 3, 2), ("words", 4, 2), ("words", 2, 3), ("words", 3, 3),
    ("words", 2, 5), ("words", 6, 2), ("sets", 2, 1), ("sets", 4, 2), ("sets", 5, 2), ("sets", 6, 3), ("sets", 7, 3),
    ("sets", 8, 2), ("sets", 12, 1), ("sets", 8, 4),
)
OTHERS = (samples.PAIR, samples.PENTAGON, samples.CUBE_OF_KINDS, samples.ONE_POINT, ("product", ("words", 2, 2), ("sets", 4, 2)),
          ("product", samples.ONE_POINT, ("words", 3, 2)))
NO_SCHEMES = (("words", 0, 2), ("words", 40, 1000), ("sets", 3, 2), samples.NINE_KINDS, ())
FANO = [point_of_set(("sets", 7, 3), line) for line in
        ((0, 1, 2), (0, 3, 4), (0, 5, 6), (1, 3, 5), (1, 4, 6), (2, 3, 6), (2, 4, 5))]
# The planes of the eight corners of a cube: three corners lie together in just one of them.
PLANES = [point_of_set(("sets", 8, 4), some) for some in combinations(range(8), 4)
          if some[0] ^ some[1] ^ some[2] ^ some[3] == 0]
EVEN = [point for point in range(64) if bin(point).count("1") % 2 == 0]


def told_number(tree, lot, t):
    """How many points of a lot have each pattern of the strength t, by counting; None if it is not the same for all."""
    counts = set()
    if tree[0] == "words":
        words = [word_at(tree, point) for point in lot]
        for places in combinations(range(tree[1]), t):
            for figures in product(range(tree[2]), repeat=t):
                counts.add(len([word for word in words if tuple(word[place] for place in places) == figures]))
    else:
        sets = [set(set_at(tree, point)) for point in lot]
        for some in combinations(range(tree[1]), t):
            counts.add(len([one for one in sets if one >= set(some)]))
    return counts.pop() if len(counts) == 1 else None


def pattern_count(tree, t):
    """The number of patterns of the strength t."""
    return comb(tree[1], t) * (tree[2] ** t if tree[0] == "words" else 1)


def some_lots(tree, chance, many=6):
    """Some lots of a scheme, of one point, of all points, and others."""
    points = point_count(tree)
    sizes = [1, min(2, points), points] + [chance.randrange(1, min(points, 40) + 1) for _ in range(many)]
    return [chance.sample(range(points), size) for size in sizes]


class Designs(unittest.TestCase):
    def test_by_counting(self):
        chance = random.Random(98)
        outcomes = []
        for tree in ORDERED:
            for lot in some_lots(tree, chance):
                for t in range(kind_count(tree)):
                    expected = told_number(tree, lot, t)
                    self.assertEqual(design_number(tree, lot, t), expected, (tree, lot, t))
                    self.assertIs(is_design(tree, tuple(lot), t), expected is not None)
                    outcomes.append((t, expected is None))
        for t in range(4):
            self.assertGreater(outcomes.count((t, False)), 5)
        for t in range(1, 4):
            self.assertGreater(outcomes.count((t, True)), 5)

    def test_all_lots_of_small_schemes(self):
        for tree in (("words", 3, 2), ("words", 2, 3), ("sets", 4, 2), ("sets", 5, 1), ("sets", 5, 2)):
            for size in range(1, point_count(tree) + 1):
                for lot in combinations(range(point_count(tree)), size):
                    for t in range(kind_count(tree)):
                        self.assertEqual(design_number(tree, lot, t), told_number(tree, lot, t))

    def test_known_ones(self):
        for tree, lot, numbers in (
                (("sets", 7, 3), FANO, [7, 3, 1, None]), (("sets", 8, 4), PLANES, [14, 7, 3, 1, None]),
                (("words", 6, 2), EVEN, [32, 16, 8, 4, 2, 1, None]), (("words", 3, 3), [13], [1, None, None, None]),
                (("words", 3, 2), [0, 3, 5, 6], [4, 2, 1, None]), (("words", 3, 2), [0, 7], [2, 1, None, None]),
                (("sets", 4, 2), [0, 5], [2, 1, None]), (("sets", 12, 1), [3], [1, None]),
                (("words", 4, 2), list(range(16)), [16, 8, 4, 2, 1]), (("sets", 6, 3), list(range(20)), [20, 10, 4, 1])):
            with self.subTest(tree):
                self.assertEqual([design_number(tree, lot, t) for t in range(kind_count(tree))], numbers)
                self.assertEqual([is_design(tree, lot, t) for t in range(kind_count(tree))],
                                 [number is not None for number in numbers])

    def test_a_point_less_or_moved(self):
        for tree, lot, t in ((("sets", 7, 3), FANO, 2), (("sets", 8, 4), PLANES, 3), (("words", 6, 2), EVEN, 5)):
            self.assertIs(is_design(tree, lot, t), True)
            self.assertIs(is_design(tree, lot[1:], 1), False)
            self.assertIs(is_design(tree, lot[:-1], t), False)
            other = next(point for point in range(point_count(tree)) if point not in lot)
            # There are as many points as before, so that only the patterns tell it.
            self.assertIs(is_design(tree, [other] + lot[1:], t), False)
            self.assertIsNone(design_number(tree, [other] + lot[1:], t))

    def test_dual_shares(self):
        chance = random.Random(99)
        for tree in ORDERED:
            for lot in some_lots(tree, chance):
                duals = dual_shares(tree, lot)
                for t in range(kind_count(tree)):
                    self.assertIs(is_design(tree, lot, t), all(dual == (0, 1) for dual in duals[1:t + 1]))
                    self.assertIs(is_design(tree, lot, t), t <= strength(tree, lot))

    def test_lots_of_five_hundred_points(self):
        tree = ("words", 3, 20)
        lot = [400 * x + 20 * y + (x + y) % 20 for x in range(20) for y in range(20)]
        self.assertEqual([design_number(tree, lot, t) for t in range(4)], [400, 20, 1, None])
        many = spanned(("words", 15, 2), [1 << at | 1 << (at + 7) for at in range(8)])
        self.assertEqual(len(many), 256)
        self.assertEqual(design_number(("words", 15, 2), many, 1), 128)
        self.assertEqual(design_number(("words", 1, 500), list(range(500)), 1), 1)
        self.assertEqual(design_number(("words", 1, 501), list(range(500)), 0), 500)
        with self.assertRaises(InvalidLot):
            design_number(("words", 1, 501), list(range(501)), 1)

    def test_great_schemes(self):
        self.assertEqual(design_number(("words", 20, 1000), [5], 0), 1)
        self.assertIsNone(design_number(("words", 20, 1000), [5, 10 ** 59], 1))
        self.assertEqual(design_number(("words", 20, 25), [sum(at * 25 ** place for place in range(20)) for at in range(25)], 1), 1)
        self.assertEqual(design_number(("sets", 80, 40), [0, point_count(("sets", 80, 40)) - 1], 1), 1)
        self.assertIsNone(design_number(("sets", 80, 40), [0, point_count(("sets", 80, 40)) - 1], 2))
        # The limit alone bars what could be answered.
        self.assertIsNone(design_number(("sets", 80, 40), [7], 40, limit=10 ** 30))


class Limits(unittest.TestCase):
    def test_the_limit_is_the_number_of_patterns_or_one_less(self):
        for tree in ORDERED + (("words", 40, 31), ("words", 20, 1000), ("sets", 80, 40)):
            for t in range(min(kind_count(tree), 4)):
                many = pattern_count(tree, t)
                for lot in ([0], (0, 1)):
                    found = design_number(tree, lot, t, limit=many)
                    self.assertEqual(is_design(tree, lot, t, limit=many), found is not None)
                    for limit in {many - 1, 0, -1}:
                        for call in (design_number, is_design):
                            with self.subTest(tree), self.assertRaises(TooMany) as caught:
                                call(tree, lot, t, limit=limit)
                            self.assertEqual(caught.exception.limit, limit)

    def test_the_limit_that_is_not_told(self):
        for tree, t, many in ((("words", 1, 1000), 1, 1000), (("words", 20, 1000), 1, 20000), (("words", 8, 10), 3, 56000),
                              (("sets", 80, 2), 2, 3160), (("sets", 25, 4), 4, 12650), (("words", 2, 141), 2, 19881),
                              (("words", 2, 142), 2, 20164), (("sets", 28, 4), 4, 20475), (("sets", 80, 40), 3, 82160)):
            self.assertEqual(pattern_count(tree, t), many)
            for call in (design_number, is_design):
                if many <= 20000:
                    self.assertFalse(call(tree, [0, 1], t))
                else:
                    with self.subTest(tree), self.assertRaises(TooMany) as caught:
                        call(tree, [0, 1], t)
                    self.assertEqual(caught.exception.limit, 20000)


class Apart(unittest.TestCase):
    def test_by_the_kinds_that_occur(self):
        chance = random.Random(100)
        outcomes = []
        for tree in samples.SMALL:
            pair = chance.sample(range(point_count(tree)), min(2, point_count(tree)))
            lots = [lot for lot in some_lots(tree, chance, 5) if len(lot) <= 24] + [[0], pair]
            for one in lots:
                for other in lots:
                    expected = not set(kinds_in(tree, one)) & set(kinds_in(tree, other))
                    self.assertIs(are_apart(tree, one, tuple(other)), expected)
                    self.assertIs(are_apart(tree, other, one), expected)
                    if expected:
                        self.assertLessEqual(len(one) * len(other), point_count(tree))
                        self.assertLessEqual(len(one), room_beside(tree, other))
                    outcomes.append((expected, len(one) > 1 and len(other) > 1))
        for outcome in ((True, False), (True, True), (False, True)):
            self.assertGreater(outcomes.count(outcome), 20)

    def test_lots_that_share_one_kind(self):
        tree = ("words", 4, 2)
        self.assertIs(are_apart(tree, [0, 3, 5, 6], [0, 1]), True)
        self.assertIs(are_apart(tree, [0, 3, 5, 6], [0, 1, 14, 15]), True)
        self.assertIs(are_apart(tree, [0, 3, 5, 6], [0, 1, 12]), False)
        self.assertIs(are_apart(tree, [0, 15], [0, 15]), False)
        self.assertIs(are_apart(tree, [0, 15], [1, 14]), False)
        self.assertIs(are_apart(tree, [0, 15], [3, 4, 5]), True)
        self.assertIs(are_apart(tree, [7], [7]), True)
        self.assertIs(are_apart(tree, [7], list(range(16))), True)
        self.assertIs(are_apart(samples.PENTAGON, [0, 1], [0, 2]), True)
        self.assertIs(are_apart(samples.PENTAGON, [0, 1], [0, 2, 1]), False)

    def test_sizes_whose_product_is_the_number_of_points(self):
        chance = random.Random(101)
        met = 0
        for tree in (("words", 3, 2), ("words", 4, 2), ("words", 2, 3), ("sets", 4, 2), ("sets", 6, 3), ("sets", 5, 2),
                     ("product", samples.PAIR, ("words", 1, 3)), samples.CUBE_OF_KINDS, samples.TRIANGLE_PAIR):
            many = point_count(tree)
            for _ in range(150):
                size = chance.choice([size for size in range(1, many + 1) if many % size == 0])
                one, other = chance.sample(range(many), size), chance.sample(range(many), many // size)
                if are_apart(tree, one, other):
                    met += 1
                    self.assertFalse(set(loud_spaces(tree, one)) & set(loud_spaces(tree, other)))
        self.assertGreater(met, 150)
        tree, lot = ("words", 7, 2), spanned(("words", 7, 2), [67, 37, 22, 15])
        ball = [0] + [1 << at for at in range(7)]
        self.assertEqual((are_apart(tree, lot, ball), len(lot) * len(ball)), (True, 128))
        self.assertFalse(set(loud_spaces(tree, lot)) & set(loud_spaces(tree, ball)))
        self.assertIs(are_apart(tree, right_angles(tree, lot), ball), True)

    def test_room_beside_a_lot(self):
        for tree in samples.SMALL:
            many = point_count(tree)
            for size in range(1, min(many, 500) + 1):
                self.assertEqual(room_beside(tree, list(range(size))), many // size)
        self.assertEqual(room_beside(("words", 20, 1000), [0, 9, 5]), (10 ** 60 - 1) // 3)
        self.assertEqual(room_beside(samples.PENTAGON, (3, 4)), 2)
        self.assertIs(type(room_beside(("sets", 5, 2), [1])), int)

    def test_schemes_of_all_sorts(self):
        for tree in OTHERS:
            self.assertIs(are_apart(tree, [0], [0]), True)
            self.assertEqual(room_beside(tree, [0]), point_count(tree))


class Errors(unittest.TestCase):
    def test_strengths_out_of_the_bounds(self):
        for tree in ORDERED + (("words", 20, 1000), ("sets", 80, 40)):
            for t in (-1, kind_count(tree), kind_count(tree) + 1, -kind_count(tree), 10 ** 60):
                for call in (design_number, is_design):
                    for limit in (20000, 0):
                        with self.subTest(tree), self.assertRaises(InvalidQuestion):
                            call(tree, [0], t, limit=limit)

    def test_schemes_of_another_sort(self):
        for tree in OTHERS:
            for call in (design_number, is_design):
                for t in (0, 1, -1):
                    with self.subTest(tree), self.assertRaises(InvalidQuestion):
                        call(tree, [0], t, limit=0)

    def test_what_is_no_scheme_ahead_of_all(self):
        for tree in NO_SCHEMES:
            for lot in ([], [-1], [0, 0], [0]):
                for call in (lambda: design_number(tree, lot, -1, limit=0), lambda: is_design(tree, lot, 0),
                             lambda: are_apart(tree, lot, lot), lambda: room_beside(tree, lot)):
                    with self.subTest(tree), self.assertRaises(InvalidScheme):
                        call()

    def test_the_lot_ahead_of_the_question(self):
        for tree in (("words", 3, 2), ("sets", 8, 1), ("words", 1, 600), samples.CUBE_OF_KINDS, samples.PENTAGON):
            many = point_count(tree)
            for call in (lambda lot: design_number(tree, lot, -1, limit=0), lambda lot: is_design(tree, lot, 0, limit=0),
                         lambda lot: room_beside(tree, lot), lambda lot: are_apart(tree, lot, [0]),
                         lambda lot: are_apart(tree, [0], lot), lambda lot: are_apart(tree, lot, [-1, -1])):
                for lot, point in (([-2], -2), ([many], many), ([0, 0, many, -1], many), ([1, 1, 10 ** 60], 10 ** 60)):
                    with self.subTest(tree, lot=lot), self.assertRaises(UnknownPoint) as caught:
                        call(lot)
                    self.assertEqual(caught.exception.point, point)
                for lot in ([], (), [0, 0], [1, 2, 1]) + (([*range(501)],) if many > 500 else ()):
                    with self.subTest(tree), self.assertRaises(InvalidLot):
                        call(lot)

    def test_the_first_lot_ahead_of_the_second_one(self):
        tree = ("words", 3, 2)
        for one, other, point in (([8], [9], 8), ([9], [0, 0], 9), ([0], [9, -1], 9), ([9, 9], [], 9)):
            with self.assertRaises(UnknownPoint) as caught:
                are_apart(tree, one, other)
            self.assertEqual(caught.exception.point, point)
        for one, other in (([0, 0], [9]), ([], [-1]), ([0], []), ([0], [1, 1])):
            with self.assertRaises(InvalidLot):
                are_apart(tree, one, other)

    def test_arguments_stay_as_they_were(self):
        tree, one, other = ("words", 3, 2), [6, 0, 5, 3], [7, 0]
        kept = copy.deepcopy((one, other))
        for _ in range(2):
            self.assertEqual((design_number(tree, one, 2), is_design(tree, one, 3), are_apart(tree, one, other),
                              room_beside(tree, one)), (1, False, True, 2))
            self.assertEqual((one, other), kept)


if __name__ == "__main__":
    unittest.main()
