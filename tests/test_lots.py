"""Lots, their shares and dual shares, and how points see them (points 43 to 50, 55 and 56)."""

import copy
import random
import unittest
from fractions import Fraction
from itertools import combinations, product

from schemebound.eigenvalues import dual_eigenvalues, eigenvalues
from schemebound.errors import InvalidLot, InvalidQuestion, UnknownPoint
from schemebound.lots import (
    dual_shares, duals_from, is_even, kinds_in, least_kind, others_of, pair_counts, seen_from, shares, shares_from,
    shares_of_others, silent_spaces, strength,
)
from schemebound.schemes import kind_count, kind_of, point_count, set_at, word_at

import samples

WHOLE = tuple(tree for tree in samples.SMALL if samples.has_whole_eigenvalues(tree))
ORDERED = (("words", 3, 2), ("words", 4, 2), ("words", 2, 3), ("words", 3, 3), ("words", 2, 5), ("words", 1, 5),
           ("sets", 4, 2), ("sets", 5, 2), ("sets", 6, 3), ("sets", 7, 3), ("sets", 12, 1))
GREAT = (("words", 40, 31), ("words", 20, 1000), ("sets", 80, 40), ("sets", 80, 3), ("words", 40, 2),
         ("product", ("words", 5, 1000), ("sets", 60, 6)), ("product", ("words", 1, 1000), ("words", 15, 1000)))
POINTS_500 = (("words", 1, 500), ("words", 1, 600), ("sets", 80, 2), ("words", 9, 2), ("words", 40, 31))
FUNCTIONS_OF_A_LOT = (
    pair_counts, shares, kinds_in, dual_shares, silent_spaces, strength, least_kind, is_even, others_of,
    lambda tree, lot: seen_from(tree, lot, 0),
)


def told(fraction):
    """A fraction as the program tells it."""
    return (fraction.numerator, fraction.denominator)


def some_lots(tree, chance, many=6):
    """Some lots of a scheme: a point, a few points, half of them and all, as far as there are so many."""
    points = point_count(tree)
    sizes = [1, min(2, points), min(3, points), min(points, 500)] + [chance.randrange(1, min(points, 60) + 1)] * many
    return [chance.sample(range(points), size) for size in sizes]


def counted_pairs(tree, lot):
    """The numbers of ordered pairs of points of a lot, kind by kind."""
    kinds = [kind_of(tree, x, y) for x in lot for y in lot]
    return tuple(kinds.count(kind) for kind in range(kind_count(tree)))


class Shares(unittest.TestCase):
    def test_pairs_are_counted(self):
        chance = random.Random(45)
        for tree in samples.SMALL:
            for lot in some_lots(tree, chance, 2):
                if len(lot) <= 40:
                    counts = counted_pairs(tree, lot)
                    self.assertEqual(pair_counts(tree, lot), counts)
                    self.assertEqual(pair_counts(tree, tuple(lot[::-1])), counts)
                    self.assertEqual(shares(tree, lot), tuple(told(Fraction(count, len(lot))) for count in counts))
                    self.assertEqual(kinds_in(tree, lot), [kind for kind in range(1, len(counts)) if counts[kind]])
                    self.assertEqual(shares(tree, lot)[0], (1, 1))
                    self.assertEqual(sum(Fraction(*one) for one in shares(tree, lot)), len(lot))

    def test_one_point_and_all_points(self):
        for tree in samples.SMALL:
            many = point_count(tree)
            self.assertEqual(shares(tree, [many - 1]), ((1, 1),) + ((0, 1),) * (kind_count(tree) - 1))
            self.assertEqual(kinds_in(tree, [0]), [])
            if many <= 100:
                whole = [kind_of(tree, 0, y) for y in range(many)]
                expected = tuple((whole.count(kind), 1) for kind in range(kind_count(tree)))
                self.assertEqual(shares(tree, list(range(many))), expected)
                self.assertEqual(kinds_in(tree, list(range(many))), list(range(1, kind_count(tree))))

    def test_the_scheme_of_one_point(self):
        tree = samples.ONE_POINT
        self.assertEqual((shares(tree, [0]), dual_shares(tree, [0]), silent_spaces(tree, [0])), (((1, 1),), ((1, 1),), []))
        self.assertEqual((is_even(tree, [0]), others_of(tree, [0]), seen_from(tree, [0], 0)), (True, (), (1,)))

    def test_great_schemes(self):
        for tree in GREAT:
            last = point_count(tree) - 1
            lot = [last, 0, last // 2, 1, last // 3]
            with self.subTest(tree):
                self.assertEqual(pair_counts(tree, lot), counted_pairs(tree, lot))

    def test_lots_of_five_hundred_points_of_great_schemes(self):
        chance = random.Random(500)
        for tree in GREAT:
            many = point_count(tree)
            lot = list({chance.randrange(many): True for _ in range(520)})[:500]
            found = shares(tree, lot)
            with self.subTest(tree):
                self.assertEqual(sum(Fraction(*one) for one in found), 500)
                duals = dual_shares(tree, lot)
                self.assertEqual(sum(Fraction(*one) for one in duals), Fraction(many, 500))
                self.assertEqual(shares_from(tree, 500, duals), found)
                self.assertEqual(sum(seen_from(tree, lot, 0)), 500)
                self.assertIs(is_even(tree, lot), False)


class Duals(unittest.TestCase):
    def test_dual_shares_by_the_words_of_the_document(self):
        chance = random.Random(46)
        for tree in WHOLE + GREAT[:4]:
            duals = dual_eigenvalues(tree)
            spaces = range(len(duals))
            lots = some_lots(tree, chance) if point_count(tree) < 10 ** 6 else [[5], [0, 7 ** 9, 3 ** 15 + 1]]
            for lot in lots:
                found = [Fraction(*one) for one in shares(tree, lot)]
                expected = [sum(found[i] * Fraction(*duals[i][j]) for i in spaces) / len(lot) for j in spaces]
                self.assertEqual(dual_shares(tree, lot), tuple(map(told, expected)))
                self.assertEqual(expected[0], 1)
                self.assertGreaterEqual(min(expected), 0)
                self.assertEqual(sum(expected), Fraction(point_count(tree), len(lot)))
                self.assertEqual(silent_spaces(tree, lot), [j for j in spaces if j > 0 and expected[j] == 0])

    def test_there_and_back(self):
        chance = random.Random(47)
        for tree in WHOLE:
            for lot in some_lots(tree, chance):
                size = len(lot)
                self.assertEqual(duals_from(tree, size, shares(tree, lot)), dual_shares(tree, lot))
                self.assertEqual(shares_from(tree, size, dual_shares(tree, lot)), shares(tree, lot))

    def test_shares_of_no_lot(self):
        chance = random.Random(48)
        for tree in WHOLE + GREAT:
            rows, duals = eigenvalues(tree), dual_eigenvalues(tree)
            spaces = range(len(rows))
            for _ in range(2):
                size = chance.choice((1, point_count(tree), chance.randrange(1, point_count(tree) + 1)))
                some = [Fraction(chance.randrange(-9, 10), chance.randrange(1, 7)) for _ in spaces]
                passed = [[3 * one.numerator, 3 * one.denominator] for one in some]
                turned = [sum(some[i] * Fraction(*duals[i][j]) for i in spaces) / size for j in spaces]
                self.assertEqual(duals_from(tree, size, passed), tuple(map(told, turned)))
                self.assertEqual(shares_from(tree, size, [told(one) for one in turned]), tuple(map(told, some)))
                back = [sum(some[j] * rows[j][i] for j in spaces) * size / Fraction(point_count(tree)) for i in spaces]
                self.assertEqual(shares_from(tree, size, tuple(passed)), tuple(map(told, back)))

    def test_one_point_and_all_points(self):
        for tree in WHOLE:
            many = point_count(tree)
            rest = kind_count(tree) - 1
            if 1 < many <= 500:
                self.assertEqual(dual_shares(tree, list(range(many))), ((1, 1),) + ((0, 1),) * rest)
                self.assertEqual(silent_spaces(tree, list(range(many))), list(range(1, rest + 1)))
            self.assertEqual(silent_spaces(tree, [many - 1]), [])

    def test_fractions_in_any_form(self):
        tree = ("words", 3, 2)
        plain = ((1, 1), (0, 1), (3, 1), (0, 1))
        for some in ([[1, 1], [0, 5], [3, 1], [0, 1]], ((2, 2), (0, 1), [9, 3], (0, 7)), [(7, 7), [0, 2], (300, 100), (0, 1)]):
            self.assertEqual(duals_from(tree, 4, some), duals_from(tree, 4, plain))
            self.assertEqual(shares_from(tree, 4, some), shares_from(tree, 4, plain))
            self.assertEqual(shares_of_others(tree, 4, some), shares_of_others(tree, 4, plain))
        self.assertEqual(duals_from(tree, 4, plain), ((1, 1), (0, 1), (0, 1), (1, 1)))
        self.assertEqual(duals_from(tree, 1, [(0, 1)] * 4), ((0, 1),) * 4)
        self.assertEqual(duals_from(tree, 2, [(-1, 1), (0, 1), (0, 1), (0, 1)]), ((-1, 2), (-3, 2), (-3, 2), (-1, 2)))


class Strength(unittest.TestCase):
    def holds(self, tree, lot, t):
        """Whether a lot has at least the strength t, by point 48."""
        if tree[0] == "words":
            words = [word_at(tree, point) for point in lot]
            for places in combinations(range(tree[1]), t):
                found = [tuple(word[place] for place in places) for word in words]
                if len({found.count(choice) for choice in product(range(tree[2]), repeat=t)}) > 1:
                    return False
            return True
        sets = [set_at(tree, point) for point in lot]
        return len({sum(1 for one in sets if set(some) <= set(one)) for some in combinations(range(tree[1]), t)}) == 1

    def told_strength(self, tree, lot):
        t = 0
        while t + 1 < kind_count(tree) and self.holds(tree, lot, t + 1):
            t += 1
        return t

    def test_strength_by_places_and_members(self):
        chance = random.Random(49)
        seen = set()
        for tree in ORDERED:
            for lot in some_lots(tree, chance, 10):
                found = strength(tree, lot)
                self.assertEqual(found, self.told_strength(tree, lot), (tree, lot))
                seen.add(found)
        self.assertLessEqual({0, 1, 2, 3}, seen)

    def test_known_lots(self):
        even = [point for point in range(64) if bin(point).count("1") % 2 == 0]
        self.assertEqual((strength(("words", 6, 2), even), least_kind(("words", 6, 2), even)), (5, 2))
        self.assertEqual(strength(("words", 6, 2), list(range(64))), 6)
        self.assertEqual(strength(("sets", 7, 3), list(range(35))), 3)
        self.assertEqual((strength(("words", 6, 2), [0, 63]), least_kind(("words", 6, 2), [0, 63])), (1, 6))
        # The lines of the plane of seven points.
        tree = ("sets", 7, 3)
        lines = [point for point in range(35) if set_at(tree, point) in
                 {(0, 1, 2), (0, 3, 4), (0, 5, 6), (1, 3, 5), (1, 4, 6), (2, 3, 6), (2, 4, 5)}]
        self.assertEqual((len(lines), strength(tree, lines), least_kind(tree, lines), kinds_in(tree, lines)), (7, 2, 2, [2]))
        self.assertEqual(silent_spaces(tree, lines), [1, 2])

    def test_silent_spaces_behind_one_that_is_not(self):
        self.assertEqual(silent_spaces(("words", 3, 2), [0, 7]), [1, 3])
        self.assertEqual(strength(("words", 3, 2), [0, 7]), 1)
        self.assertEqual((silent_spaces(("words", 2, 2), [0, 1]), strength(("words", 2, 2), [0, 1])), ([2], 0))

    def test_least_kind(self):
        chance = random.Random(50)
        for tree in ORDERED:
            for lot in some_lots(tree, chance):
                kinds = {kind_of(tree, x, y) for x, y in combinations(lot, 2)}
                self.assertEqual(least_kind(tree, lot), min(kinds) if kinds else None)
        self.assertIsNone(least_kind(("words", 20, 1000), [10 ** 59]))
        self.assertEqual(least_kind(("words", 20, 1000), [0, 1, 10 ** 59]), 1)


class Seeing(unittest.TestCase):
    def test_numbers_by_which_points_see_lots(self):
        chance = random.Random(51)
        outcomes = set()
        for tree in samples.SMALL:
            points = point_count(tree)
            for lot in some_lots(tree, chance, 2):
                if len(lot) > 40:
                    continue
                seen = {}
                for point in {0, points - 1, *lot[:4]}:
                    kinds = [kind_of(tree, point, y) for y in lot]
                    seen[point] = tuple(kinds.count(kind) for kind in range(kind_count(tree)))
                    self.assertEqual(seen_from(tree, lot, point), seen[point])
                    self.assertEqual(seen[point][0], int(point in lot))
                even = len({seen_from(tree, lot, point) for point in lot}) == 1
                self.assertIs(is_even(tree, lot), even)
                outcomes.add(even)
        self.assertEqual(outcomes, {True, False})

    def test_even_lots(self):
        for tree, lot, even in ((("words", 3, 2), [0, 3, 5, 6], True), (("words", 3, 2), [0, 1, 2], False),
                                (("words", 3, 2), [5], True), (("words", 2, 3), [0, 4, 8], True),
                                (samples.PENTAGON, [0, 1, 2], False), (samples.PENTAGON, [0, 2], True),
                                (samples.EIGHT_KINDS, list(range(15)), True), (("words", 3, 2), [0, 1, 6, 7], True)):
            self.assertIs(is_even(tree, lot), even)
        # Two points see it by the same numbers, the others do not: looking at some is not enough.
        self.assertIs(is_even(("words", 4, 2), [0, 3, 15]), False)

    def test_a_point_that_is_none_behind_the_lot(self):
        tree = ("words", 3, 2)
        for point in (-1, 8, 10 ** 60):
            with self.assertRaises(UnknownPoint) as caught:
                seen_from(tree, [0, 3], point)
            self.assertEqual(caught.exception.point, point)
            with self.assertRaises(InvalidLot):
                seen_from(tree, [3, 3], point)
            with self.assertRaises(InvalidLot):
                seen_from(tree, [], point)
            with self.assertRaises(UnknownPoint) as caught:
                seen_from(tree, [3, 9, 3], point)
            self.assertEqual(caught.exception.point, 9)


class Others(unittest.TestCase):
    def test_the_other_points(self):
        chance = random.Random(52)
        for tree in samples.SMALL:
            for lot in some_lots(tree, chance):
                expected = tuple(point for point in range(point_count(tree)) if point not in lot)
                self.assertEqual(others_of(tree, lot), expected)

    def test_shares_of_the_others(self):
        chance = random.Random(53)
        for tree in WHOLE:
            for lot in some_lots(tree, chance):
                others = others_of(tree, lot)
                if others:
                    found = shares_of_others(tree, len(lot), shares(tree, lot))
                    self.assertEqual(found, shares(tree, others), (tree, lot))
                    back = shares_of_others(tree, len(others), list(map(list, found)))
                    self.assertEqual(back, shares(tree, lot))
                else:
                    with self.assertRaises(InvalidQuestion):
                        shares_of_others(tree, len(lot), shares(tree, lot))

    def test_dual_shares_of_the_others(self):
        tree, lot = ("sets", 6, 3), [0, 3, 4, 9, 11, 17]
        expected = [Fraction(*one) * Fraction(36, 196) for one in dual_shares(tree, lot)[1:]]
        self.assertEqual(dual_shares(tree, others_of(tree, lot))[1:], tuple(map(told, expected)))

    def test_shares_of_the_others_of_no_lot(self):
        tree = ("words", 3, 2)
        some = [(5, 2), (1, 3), (-1, 1), (0, 1)]
        for size in (1, 3, 7):
            duals = [Fraction(*one) * Fraction(size * size, (8 - size) ** 2) for one in duals_from(tree, size, some)]
            expected = shares_from(tree, 8 - size, [(1, 1)] + [told(one) for one in duals[1:]])
            self.assertEqual(shares_of_others(tree, size, some), expected)

    def test_others_of_great_schemes(self):
        tree = ("words", 20, 1000)
        many = 10 ** 60
        one = [(1, 1)] + [(0, 1)] * 20
        found = shares_of_others(tree, 1, one)
        self.assertEqual(found[0], (1, 1))
        self.assertEqual(sum(Fraction(*share) for share in found), many - 1)
        self.assertEqual(shares_of_others(tree, many - 1, found), tuple(one))

    def test_a_thousand_points_and_one_more(self):
        for tree in (("words", 3, 10), ("words", 1, 1000), ("product", samples.PENTAGON, ("words", 1, 200))):
            self.assertEqual(point_count(tree), 1000)
            self.assertEqual(others_of(tree, [999, 0]), tuple(range(1, 999)))
        for tree in (("sets", 14, 4), ("words", 10, 2), ("words", 20, 1000), ("product", ("words", 1, 7), ("words", 1, 143))):
            self.assertGreater(point_count(tree), 1000)
            with self.subTest(tree), self.assertRaises(InvalidQuestion):
                others_of(tree, [0])
        self.assertEqual(point_count(("sets", 14, 4)), 1001)


class LotsThatAreNone(unittest.TestCase):
    def test_how_many_points(self):
        for tree in POINTS_500:
            self.assertEqual(sum(pair_counts(tree, list(range(500)))), 500 * 500)
            self.assertEqual(sum(seen_from(tree, tuple(range(500)), 1)), 500)
        for tree in POINTS_500[1:]:
            for call in FUNCTIONS_OF_A_LOT:
                with self.subTest(tree), self.assertRaises(InvalidLot):
                    call(tree, list(range(501)))
        for tree in POINTS_500 + WHOLE:
            for call in FUNCTIONS_OF_A_LOT:
                for lot in ([], (), [0, 0]):
                    with self.subTest(tree), self.assertRaises(InvalidLot):
                        call(tree, lot)

    def test_a_point_twice(self):
        for lot in ([0, 3, 0], [3, 3], (1, 2, 3, 1), [7] * 600):
            for call in FUNCTIONS_OF_A_LOT:
                with self.subTest(lot), self.assertRaises(InvalidLot):
                    call(("words", 3, 2), lot)

    def test_unknown_points_ahead_of_that(self):
        for lot, point in (([0, 8, 0], 8), ([-1, -1], -1), ([0, 0, 9, -1], 9), (list(range(600)), 8), ([3, 10 ** 60, 8], 10 ** 60)):
            for call in FUNCTIONS_OF_A_LOT:
                for tree in (("words", 3, 2), ("sets", 8, 1), samples.CUBE_OF_KINDS):
                    with self.subTest(lot), self.assertRaises(UnknownPoint) as caught:
                        call(tree, lot)
                    self.assertEqual(caught.exception.point, point)


class Questions(unittest.TestCase):
    def test_strength_and_least_kind_are_for_words_and_sets(self):
        for tree in (samples.CUBE_OF_KINDS, samples.PENTAGON, ("product", ("words", 2, 2), ("sets", 4, 2)), samples.PAIR,
                     ("product", samples.ONE_POINT, ("words", 2, 2))):
            for call in (strength, least_kind):
                with self.subTest(tree), self.assertRaises(InvalidQuestion):
                    call(tree, [0, 1])
                with self.subTest(tree), self.assertRaises(InvalidLot):
                    call(tree, [1, 1])
                with self.subTest(tree), self.assertRaises(UnknownPoint):
                    call(tree, [1, 1, -1])

    def test_eigenvalues_that_are_no_integers(self):
        inside = (samples.PENTAGON, samples.EIGHT_KINDS, ("product", samples.PENTAGON, ("words", 2, 2)),
                  ("product", ("sets", 4, 2), ("product", samples.PAIR, samples.PENTAGON)))
        for tree in inside:
            some = [(1, 1)] + [(0, 1)] * (kind_count(tree) - 1)
            for call in (lambda: dual_shares(tree, [0, 1]), lambda: silent_spaces(tree, [0]),
                         lambda: duals_from(tree, 1, some), lambda: shares_from(tree, 1, some),
                         lambda: shares_of_others(tree, 1, some)):
                with self.subTest(tree), self.assertRaises(InvalidQuestion):
                    call()
            for call in (dual_shares, silent_spaces):
                with self.assertRaises(InvalidLot):
                    call(tree, [1, 1])
                with self.assertRaises(UnknownPoint):
                    call(tree, [1, 1, -1])
            self.assertEqual(sum(pair_counts(tree, [0, 1, 2])), 9)
            self.assertEqual(len(others_of(tree, [0])), point_count(tree) - 1)
            self.assertIs(is_even(tree, [0, 1]), True)
            self.assertEqual(sum(seen_from(tree, [0, 1], 2)), 2)
            self.assertEqual(len(shares(tree, [0, 2])), kind_count(tree))

    def test_sizes(self):
        for tree in (("words", 3, 2), ("sets", 4, 2), samples.PAIR, samples.ONE_POINT, ("words", 20, 1000)):
            some = [(1, 1)] + [(0, 1)] * (kind_count(tree) - 1)
            many = point_count(tree)
            for size in (1, many):
                self.assertEqual(len(duals_from(tree, size, some)), len(some))
                self.assertEqual(len(shares_from(tree, size, some)), len(some))
            for size in (0, -1, many + 1, -many, 10 ** 61):
                for call in (duals_from, shares_from, shares_of_others):
                    with self.subTest(tree), self.assertRaises(InvalidQuestion):
                        call(tree, size, some)
            with self.assertRaises(InvalidQuestion):
                shares_of_others(tree, many, some)
            if many > 1:
                self.assertEqual(len(shares_of_others(tree, many - 1, some)), len(some))

    def test_fractions_that_are_none(self):
        tree = ("words", 2, 2)
        for some in ([], [(1, 1)], [(1, 1), (0, 1)], [(1, 1)] * 4, [(1, 1), (0, 0), (0, 1)], [(1, 1), (1, -1), (0, 1)],
                     [(1, 0), (0, 1), (0, 1)], [(1, 1), (0, 1), (0, -5)], [(1, 1), (0, 1), (1,)], [(1, 1), (0, 1), ()],
                     [(1, 1), (0, 1), (0, 1, 1)], [[1, 1], [0, 1], [2, 0]]):
            for call in (duals_from, shares_from, shares_of_others):
                with self.subTest(some), self.assertRaises(InvalidQuestion):
                    call(tree, 2, some)


class Asking(unittest.TestCase):
    def test_kinds_of_values(self):
        tree, lot = ("words", 3, 2), [6, 0, 3]
        for found in (pair_counts(tree, lot), shares(tree, lot), dual_shares(tree, lot), seen_from(tree, lot, 1),
                      others_of(tree, lot), duals_from(tree, 3, shares(tree, lot)),
                      shares_from(tree, 3, dual_shares(tree, lot)), shares_of_others(tree, 3, shares(tree, lot))):
            self.assertIs(type(found), tuple)
        for found in (shares(tree, lot), dual_shares(tree, lot), shares_of_others(tree, 3, shares(tree, lot))):
            self.assertEqual({type(one) for one in found}, {tuple})
        self.assertIs(type(kinds_in(tree, lot)), list)
        self.assertIs(type(silent_spaces(tree, lot)), list)
        self.assertIs(type(strength(tree, lot)), int)
        self.assertIs(type(least_kind(tree, lot)), int)

    def test_arguments_and_later_answers_stay_as_they_were(self):
        rows = [[0, 1, 2, 2], [1, 0, 2, 2], [2, 2, 0, 1], [2, 2, 1, 0]]
        tree, lot, some = ("listed", rows), [3, 0], [[2, 2], [0, 3], [4, 4]]
        words, several = ("words", 3, 2), [6, 0, 3]
        kept = copy.deepcopy((tree, lot, some, several))
        answers = []
        for _ in range(2):
            answers.append(copy.deepcopy((
                pair_counts(tree, lot), shares(tree, lot), kinds_in(tree, lot), dual_shares(tree, lot),
                silent_spaces(tree, lot), duals_from(tree, 2, some), shares_from(tree, 2, some),
                seen_from(tree, lot, 1), is_even(tree, lot), others_of(tree, lot), shares_of_others(tree, 2, some),
                strength(words, several), least_kind(words, several))))
            kinds_in(tree, lot).append(7)
            silent_spaces(tree, lot).append(7)
            self.assertEqual((tree, lot, some, several), kept)
        self.assertEqual(answers[0], answers[1])


if __name__ == "__main__":
    unittest.main()
