"""Allowed lots, and the greatest ones (points 57 and 58)."""

import copy
import random
import unittest
from itertools import combinations

from schemebound.errors import InvalidLot, InvalidQuestion, TooMany, UnknownPoint
from schemebound.greatest import Search, fitting, greatest, grown, is_allowed, looks_alike, lot_counts, lots
from schemebound.schemes import kind_count, kind_of, kind_table, point_count

import samples

HUNDRED = (("words", 2, 10), ("words", 1, 100), ("product", samples.PENTAGON, ("words", 1, 20)))
MORE = (("words", 1, 101), ("sets", 15, 2), ("words", 7, 2), ("words", 20, 1000),
        ("product", ("words", 1, 17), ("words", 1, 6)))
SMALL = tuple(tree for tree in samples.SMALL if point_count(tree) <= 16)


def all_kinds(tree):
    """All lists of kinds above 0, for few kinds; some of them for more."""
    kinds = range(1, kind_count(tree))
    found = [list(some) for many in range(len(kinds) + 1) for some in combinations(kinds, many)]
    return found if len(found) <= 16 else random.Random(57).sample(found, 16)


def told_lots(tree, kinds):
    """All allowed lots, by their numbers of points, each number of them in ascending order."""
    table = kind_table(tree)
    levels = [[[]]]
    while levels[-1]:
        levels.append([lot + [point] for lot in levels[-1] for point in range(lot[-1] + 1 if lot else 0, len(table))
                       if all(table[point][other] in kinds for other in lot)])
    return levels[:-1]


class Lots(unittest.TestCase):
    def test_all_lots(self):
        for tree in SMALL:
            for kinds in all_kinds(tree):
                levels = told_lots(tree, kinds)
                with self.subTest(tree, kinds=kinds):
                    self.assertEqual(lot_counts(tree, kinds), [len(level) for level in levels])
                    for many, level in enumerate(levels):
                        self.assertEqual(level, sorted(level))
                        self.assertEqual(lots(tree, kinds, many, limit=10 ** 5), level)
                    self.assertEqual(lots(tree, kinds, len(levels), limit=10 ** 5), [])
                    self.assertEqual(lots(tree, kinds, 10 ** 60, limit=10 ** 5), [])
                    self.assertEqual(greatest(tree, kinds), levels[-1][0])

    def test_allowed_lots(self):
        chance = random.Random(58)
        outcomes = set()
        for tree in samples.SMALL:
            for kinds in all_kinds(tree)[-6:]:
                for _ in range(8):
                    lot = chance.sample(range(point_count(tree)), chance.randrange(min(5, point_count(tree)) + 1))
                    expected = all(kind_of(tree, x, y) in kinds for x, y in combinations(lot, 2))
                    self.assertIs(is_allowed(tree, kinds, lot), expected)
                    outcomes.add((expected, len(lot) > 1))
        self.assertEqual(outcomes, {(True, False), (True, True), (False, True)})

    def test_the_empty_lot_and_single_points(self):
        for tree in samples.SMALL + (("words", 20, 1000),):
            for kinds in ([], [kind_count(tree) - 1] if kind_count(tree) > 1 else []):
                for lot in ([], (), [0], (point_count(tree) - 1,)):
                    self.assertIs(is_allowed(tree, kinds, lot), True)

    def test_no_kind_and_all_kinds(self):
        for tree in SMALL + HUNDRED:
            many, rest = point_count(tree), list(range(1, kind_count(tree)))
            self.assertEqual(lot_counts(tree, []), [1, many])
            self.assertEqual(greatest(tree, []), [0])
            self.assertEqual(greatest(tree, rest), list(range(many)))
            self.assertEqual(fitting(tree, [], []), list(range(many)))
            self.assertEqual(fitting(tree, [], [0]), [])
            self.assertEqual(fitting(tree, rest, [0]), list(range(1, many)))
            self.assertEqual(grown(tree, rest, []), list(range(many)))
            self.assertEqual(grown(tree, [], []), [0])
            self.assertEqual(lots(tree, rest, 1), [[point] for point in range(many)])
            self.assertIs(is_allowed(tree, rest, list(range(many))), True)
            self.assertIs(is_allowed(tree, [], list(range(min(2, many)))), many == 1)

    def test_kinds_several_times_and_in_whatever_order(self):
        tree = ("words", 4, 2)
        for kinds in ([2, 4], [4, 2], [2, 2, 4, 2], (4, 4, 2)):
            self.assertEqual(greatest(tree, kinds), greatest(tree, [2, 4]))
            self.assertEqual(lot_counts(tree, kinds), lot_counts(tree, [2, 4]))
            self.assertEqual(lots(tree, kinds, 3), lots(tree, [2, 4], 3))
            self.assertEqual(fitting(tree, kinds, [0, 3]), fitting(tree, [2, 4], [0, 3]))
            self.assertEqual(grown(tree, kinds, [3]), grown(tree, [2, 4], [3]))
            self.assertIs(is_allowed(tree, kinds, [0, 3, 5]), True)

    def test_lots_of_many_points(self):
        self.assertIs(is_allowed(("words", 10, 2), list(range(1, 11)), list(range(1024))), True)
        self.assertIs(is_allowed(("words", 10, 2), list(range(2, 11)), list(range(1024))), False)
        even = [point for point in range(1024) if bin(point).count("1") % 2 == 0]
        self.assertIs(is_allowed(("words", 10, 2), [2, 4, 6, 8, 10], even), True)
        # Of so many points only the last two have another kind.
        self.assertIs(is_allowed(("words", 10, 2), [2, 4, 6, 8, 10], even + [1]), False)
        self.assertIs(is_allowed(("words", 10, 2), [2, 4, 6, 8, 10], even[:400] + [1]), False)
        self.assertIs(is_allowed(("words", 20, 1000), [20], [(10 ** 60 - 1) // 999 * at for at in range(1000)]), True)

    def test_what_fits(self):
        chance = random.Random(59)
        for tree in samples.SMALL:
            for kinds in all_kinds(tree)[-8:]:
                points = range(point_count(tree))
                table = kind_table(tree)
                for _ in range(4):
                    lot = chance.sample(points, chance.randrange(min(4, len(points)) + 1))
                    expected = [x for x in points if all(table[x][y] in kinds for y in lot)]
                    self.assertEqual(fitting(tree, kinds, lot), expected)
                    inside = list(lot)
                    for x in points:
                        if x not in lot and all(table[x][y] in kinds for y in inside):
                            inside.append(x)
                    self.assertEqual(grown(tree, kinds, lot), sorted(inside))

    def test_a_lot_that_is_not_allowed_itself(self):
        tree = ("words", 3, 2)
        self.assertIs(is_allowed(tree, [2], [0, 7]), False)
        self.assertEqual(fitting(tree, [1, 2], [7, 0]), [1, 2, 3, 4, 5, 6])
        self.assertEqual(fitting(tree, [2], [7, 0]), [])
        self.assertEqual(grown(tree, [1, 2], [7, 0]), [0, 1, 2, 3, 7])
        self.assertEqual(grown(tree, [2], [7, 0]), [0, 7])


class Greatest(unittest.TestCase):
    def test_known_sizes(self):
        for tree, kinds, size in (
                (("words", 6, 2), [3, 4, 5, 6], 8), (("words", 6, 2), [2, 4, 6], 32), (("words", 5, 2), [3, 4, 5], 4),
                (("words", 4, 3), [3, 4], 9), (("words", 3, 4), [3], 4), (("words", 3, 4), [2, 3], 16),
                (("sets", 7, 3), [2, 3], 7), (("sets", 7, 3), [1, 2], 15), (("sets", 8, 4), [2, 4], 14),
                (("sets", 9, 3), [2, 3], 12), (("sets", 14, 2), [2], 7), (("sets", 14, 2), [1], 13),
                (("words", 2, 10), [2], 10), (samples.PENTAGON, [1], 2), (samples.EIGHT_KINDS, [3, 6], 5)):
            with self.subTest(tree, kinds=kinds):
                found = greatest(tree, kinds)
                self.assertEqual(len(found), size)
                self.assertEqual(found, sorted(found))
                self.assertIs(is_allowed(tree, kinds, found), True)

    def test_the_first_of_the_greatest(self):
        chance = random.Random(60)
        for tree in samples.SMALL:
            for kinds in all_kinds(tree):
                try:
                    counts = lot_counts(tree, kinds, limit=30000)
                    expected = lots(tree, kinds, len(counts) - 1, limit=30000)[0]
                except TooMany:
                    continue
                self.assertEqual(greatest(tree, kinds), expected, (tree, kinds))
                self.assertEqual(greatest(tree, kinds, limit=sum(counts)), expected)
                chance.shuffle(kinds)
                self.assertEqual(greatest(tree, kinds), expected)

    def test_listed_schemes(self):
        tree = ("listed", kind_table(("words", 2, 4)))
        for kinds in ([1], [2]):
            self.assertEqual(greatest(tree, kinds), greatest(("words", 2, 4), kinds))
            many = len(lot_counts(samples.SHRIKHANDE, kinds)) - 1
            self.assertEqual(greatest(samples.SHRIKHANDE, kinds), lots(samples.SHRIKHANDE, kinds, many)[0])
        self.assertEqual((len(greatest(tree, [1])), len(greatest(samples.SHRIKHANDE, [1]))), (4, 3))

    def test_schemes_whose_points_look_alike(self):
        # The search begins with the point 0 alone there. A listed scheme may have points that do not look alike.
        words, sets, listed = ("words", 2, 3), ("sets", 5, 2), samples.TRIANGLE_PAIR
        for tree in (words, sets, ("product", words, sets), ("product", ("product", sets, words), words)):
            self.assertIs(looks_alike(tree), True)
        for tree in (listed, ("product", words, listed), ("product", listed, sets),
                     ("product", ("product", words, listed), words), ("product", words, ("product", listed, listed))):
            self.assertIs(looks_alike(tree), False)

    def test_the_search_where_points_do_not_look_alike(self):
        # Pairs of points that fit, whether or not these come of a scheme: often no greatest lot has the point 0.
        chance = random.Random(61)
        without_zero = 0
        for _ in range(300):
            many = chance.randrange(1, 10)
            pairs = [(x, y) for x, y in combinations(range(many), 2) if chance.random() < chance.choice((0.3, 0.5, 0.8))]
            masks = [sum(1 << y for y in range(many) if (min(x, y), max(x, y)) in pairs) for x in range(many)]
            fit = [lot for size in range(many + 1) for lot in combinations(range(many), size)
                   if all(pair in pairs for pair in combinations(lot, 2))]
            expected = next(list(lot) for lot in fit if len(lot) == len(fit[-1]))
            for most in (many, len(expected)):
                search = Search(masks, most, len(fit))
                search.visit([], (1 << many) - 1)
                self.assertEqual(search.best, expected)
                self.assertLessEqual(search.visited, len(fit))
            without_zero += expected[0] > 0
        self.assertGreater(without_zero, 50)

    def test_the_limit_of_greatest(self):
        for tree in SMALL:
            for kinds in all_kinds(tree):
                counts = lot_counts(tree, kinds)
                self.assertEqual(len(greatest(tree, kinds, limit=sum(counts))), len(counts) - 1)
        with self.assertRaises(TooMany) as caught:
            greatest(("words", 3, 2), [2, 3], limit=0)
        self.assertEqual(caught.exception.limit, 0)


class Limits(unittest.TestCase):
    def test_lots_counts_those_with_at_most_so_many_points(self):
        for tree, kinds in ((("words", 3, 2), [2, 3]), (("sets", 5, 2), [1]), (samples.PENTAGON, [1, 2]), (samples.PAIR, [])):
            counts = lot_counts(tree, kinds)
            for many in range(len(counts) + 2):
                at_most = sum(counts[:many + 1])
                self.assertEqual(len(lots(tree, kinds, many, limit=at_most)), counts[many] if many < len(counts) else 0)
                for limit in {at_most - 1, 0}:
                    with self.assertRaises(TooMany) as caught:
                        lots(tree, kinds, many, limit=limit)
                    self.assertEqual(caught.exception.limit, limit)

    def test_lot_counts_counts_all(self):
        for tree, kinds in ((("words", 3, 2), [2, 3]), (("sets", 5, 2), [1]), (samples.PENTAGON, [1, 2]), (samples.PAIR, []),
                            (samples.ONE_POINT, []), (("words", 4, 2), [1, 2, 3, 4])):
            counts = lot_counts(tree, kinds)
            self.assertEqual(lot_counts(tree, kinds, limit=sum(counts)), counts)
            for limit in {sum(counts) - 1, 0}:
                with self.assertRaises(TooMany) as caught:
                    lot_counts(tree, kinds, limit=limit)
                self.assertEqual(caught.exception.limit, limit)
        self.assertEqual(sum(lot_counts(("words", 4, 2), [1, 2, 3, 4])), 2 ** 16)

    def test_the_limits_that_are_not_told(self):
        # Of 17 points all 2 ** 17 lots are allowed, of 18 points 2 ** 18.
        self.assertEqual(sum(lot_counts(("words", 1, 17), [1])), 2 ** 17)
        for call, tree in ((lot_counts, ("words", 1, 18)), (lot_counts, ("words", 6, 2))):
            with self.assertRaises(TooMany) as caught:
                call(tree, list(range(1, kind_count(tree))))
            self.assertEqual(caught.exception.limit, 200000)
        self.assertEqual(len(lots(("words", 1, 14), [1], 14)), 1)
        self.assertEqual(len(lots(("words", 1, 100), [1], 2)), 4950)
        for many in (15, 7, 100):
            with self.assertRaises(TooMany) as caught:
                lots(("words", 1, 15) if many == 15 else ("words", 1, 100), [1], many)
            self.assertEqual(caught.exception.limit, 20000)


class Questions(unittest.TestCase):
    def test_a_hundred_points_and_one_more(self):
        for tree in HUNDRED:
            last = kind_count(tree) - 1
            self.assertEqual(point_count(tree), 100)
            self.assertEqual(len(lot_counts(tree, [], limit=101)), 2)
            self.assertIn(0, greatest(tree, [last]))
            self.assertEqual(len(lots(tree, [last], 1)), 100)
            self.assertIn(99, fitting(tree, [last], []))
            self.assertIn(50, grown(tree, [last], [50]))
        for tree in MORE:
            for call in (lambda: fitting(tree, [1], [0]), lambda: grown(tree, [1], [0]), lambda: lots(tree, [1], 1),
                         lambda: lot_counts(tree, [1]), lambda: greatest(tree, [1]), lambda: greatest(tree, [0]),
                         lambda: fitting(tree, [1], [-1]), lambda: lots(tree, [], 0, limit=0)):
                with self.subTest(tree), self.assertRaises(InvalidQuestion):
                    call()
            self.assertIs(is_allowed(tree, [1], [0, 1]), True)

    def test_kinds_that_cannot_be_allowed_ahead_of_the_points(self):
        for tree in (("words", 3, 2), ("sets", 4, 2), samples.PENTAGON, samples.ONE_POINT, ("product", samples.PAIR, samples.PAIR)):
            for kinds in ([0], [kind_count(tree)], [-1], [0, 0], [10 ** 60], list(range(kind_count(tree)))):
                for call in (is_allowed, fitting, grown):
                    for lot in ([], [0], [-1], [0, 0], [10 ** 60, 0, 0]):
                        with self.subTest(tree), self.assertRaises(InvalidQuestion):
                            call(tree, kinds, lot)
                for call in (lambda: lots(tree, kinds, 1, limit=0), lambda: lots(tree, kinds, -1),
                             lambda: lot_counts(tree, kinds, limit=0), lambda: greatest(tree, kinds, limit=0)):
                    with self.subTest(tree), self.assertRaises(InvalidQuestion):
                        call()
        with self.assertRaises(InvalidQuestion):
            is_allowed(("words", 20, 1000), [21], [0])

    def test_points_that_are_none_ahead_of_points_twice(self):
        for tree in (("words", 3, 2), samples.CUBE_OF_KINDS):
            for call in (is_allowed, fitting, grown):
                for lot, point in (([8], 8), ([0, 0, -1], -1), ((3, 10 ** 60, -1, 3), 10 ** 60)):
                    with self.assertRaises(UnknownPoint) as caught:
                        call(tree, [1, 2], lot)
                    self.assertEqual(caught.exception.point, point)
                for lot in ([0, 0], (1, 2, 3, 1), [7] * 3):
                    with self.assertRaises(InvalidLot):
                        call(tree, [1, 2], lot)
        with self.assertRaises(UnknownPoint):
            is_allowed(("words", 20, 1000), [1], [0, 0, 10 ** 60])
        with self.assertRaises(InvalidLot):
            is_allowed(("words", 20, 1000), [1], [0, 1, 0])

    def test_a_number_of_points_below_zero_ahead_of_too_many(self):
        for many in (-1, -2, -10 ** 60):
            with self.assertRaises(InvalidQuestion):
                lots(("words", 3, 2), [1], many, limit=0)
        self.assertEqual(lots(("words", 3, 2), [1], 0), [[]])
        self.assertEqual(lots(("words", 3, 2), [1], 0, limit=1), [[]])
        with self.assertRaises(TooMany):
            lots(("words", 3, 2), [1], 0, limit=0)

    def test_lists_are_returned_and_arguments_stay_as_they_were(self):
        rows = [[0, 1, 2, 2], [1, 0, 2, 2], [2, 2, 0, 1], [2, 2, 1, 0]]
        tree, kinds, lot = ("listed", rows), [2, 1, 2], [3, 0]
        kept = copy.deepcopy((tree, kinds, lot))
        answers = []
        for _ in range(2):
            found = (fitting(tree, kinds, lot), grown(tree, kinds, lot), lots(tree, kinds, 2), lot_counts(tree, kinds),
                     greatest(tree, kinds))
            self.assertEqual({type(one) for one in found}, {list})
            self.assertEqual({type(one) for one in found[2]}, {list})
            answers.append(copy.deepcopy((found, is_allowed(tree, kinds, lot))))
            for one in found:
                one.reverse()
                one.append(9)
            self.assertEqual((tree, kinds, lot), kept)
        self.assertEqual(answers[0], answers[1])


if __name__ == "__main__":
    unittest.main()
