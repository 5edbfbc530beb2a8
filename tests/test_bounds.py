"""The linear bound, the shares that reach it and the weights that show it (points 81 to 89, and 91)."""

import copy
import random
import unittest
from fractions import Fraction
from math import gcd

from schemebound.bounds import best_shares, best_weights, bounds_from, greatest_size, linear_bound
from schemebound.eigenvalues import dual_eigenvalues, multiplicities
from schemebound.errors import InvalidQuestion, InvalidScheme
from schemebound.greatest import greatest
from schemebound.lots import kinds_in, shares
from schemebound.schemes import kind_count, kind_table, point_count, set_at
from schemebound.simplex import Tableau

import samples

WHOLE = tuple(tree for tree in samples.SMALL if samples.has_whole_eigenvalues(tree)) + samples.LISTED_WHOLE
THIRTY = (
    ("words", 29, 2), ("words", 29, 117), ("sets", 60, 29), ("sets", 80, 29), ("product", ("words", 9, 2), ("words", 2, 5)),
    ("product", ("sets", 80, 14), ("words", 1, 1000)), ("product", ("words", 4, 1000), ("words", 5, 1000)),
    ("product", ("product", ("words", 2, 7), ("sets", 30, 4)), ("words", 1, 2)),
)
GREAT = THIRTY + (("words", 20, 1000), ("sets", 80, 10), ("product", samples.CUBE_OF_KINDS, ("words", 2, 1000)))
MORE_KINDS = (("words", 30, 2), ("words", 40, 31), ("sets", 60, 30), ("sets", 80, 40),
              ("product", ("words", 15, 2), ("words", 1, 2)), ("product", ("words", 5, 2), ("words", 9, 2)))
FUNCTIONS = (linear_bound, greatest_size, best_shares, best_weights)


def some_allowed(tree, chance, many):
    """Some lists of different kinds from 1 on, in whatever order; none of them and all of them, too."""
    kinds = range(1, kind_count(tree))
    return [[], list(kinds)] + [chance.sample(kinds, chance.randrange(len(kinds) + 1)) for _ in range(many)]


def fractions(values):
    """Fractions as those of Python."""
    return [Fraction(*value) for value in values]


class Certified(unittest.TestCase):
    def check(self, tree, allowed, duals):
        """Shares that are right and weights that are right meet at the bound: so it is the greatest sum of shares."""
        kinds = range(kind_count(tree))
        bound = Fraction(*linear_bound(tree, allowed))
        found = fractions(best_shares(tree, allowed))
        self.assertEqual(len(found), len(kinds))
        self.assertEqual(found[0], 1)
        self.assertGreaterEqual(min(found), 0)
        self.assertEqual([kind for kind in kinds if kind > 0 and kind not in allowed and found[kind] != 0], [])
        for j in kinds:
            self.assertGreaterEqual(sum(found[i] * duals[i][j] for i in kinds if found[i]), 0)
        self.assertEqual(sum(found), bound)
        weights = fractions(best_weights(tree, allowed))
        self.assertEqual(len(weights), len(kinds))
        self.assertEqual(weights[0], 1)
        self.assertGreaterEqual(min(weights), 0)
        for i in allowed:
            self.assertLessEqual(sum(weights[j] * duals[i][j] for j in kinds if weights[j]), 0)
        self.assertEqual(sum(weight * many for weight, many in zip(weights, multiplicities(tree))), bound)
        self.assertEqual(greatest_size(tree, allowed), bound.numerator // bound.denominator)
        self.assertLessEqual(bound, point_count(tree))
        return bound

    def test_all_allowed_kinds_of_small_schemes(self):
        for tree in WHOLE:
            if kind_count(tree) <= 5:
                duals = [fractions(row) for row in dual_eigenvalues(tree)]
                for bits in range(1 << (kind_count(tree) - 1)):
                    self.check(tree, [kind for kind in range(1, kind_count(tree)) if bits >> (kind - 1) & 1], duals)

    def test_some_allowed_kinds(self):
        chance = random.Random(82)
        for tree in WHOLE:
            if kind_count(tree) > 5:
                duals = [fractions(row) for row in dual_eigenvalues(tree)]
                for allowed in some_allowed(tree, chance, 8):
                    self.check(tree, allowed, duals)

    def test_great_schemes(self):
        chance = random.Random(83)
        for tree in GREAT:
            duals = [fractions(row) for row in dual_eigenvalues(tree)]
            for allowed in some_allowed(tree, chance, 3) + [list(range(5, kind_count(tree)))]:
                with self.subTest(tree, allowed=allowed):
                    self.check(tree, allowed, duals)

    def test_all_kinds_and_none(self):
        for tree in WHOLE + GREAT:
            kinds = kind_count(tree)
            everything = list(range(1, kinds))
            self.assertEqual(linear_bound(tree, everything), (point_count(tree), 1))
            self.assertEqual(greatest_size(tree, everything[::-1]), point_count(tree))
            self.assertEqual(linear_bound(tree, []), (1, 1))
            self.assertEqual(linear_bound(tree, ()), (1, 1))
            self.assertEqual(best_shares(tree, []), ((1, 1),) + ((0, 1),) * (kinds - 1))

    def test_more_kinds_and_all_other_kinds(self):
        chance = random.Random(86)
        for tree in WHOLE + GREAT:
            everything = list(range(1, kind_count(tree)))
            for allowed in some_allowed(tree, chance, 4 if tree in WHOLE else 2):
                bound = Fraction(*linear_bound(tree, allowed))
                others = [kind for kind in everything if kind not in allowed]
                self.assertLessEqual(bound * Fraction(*linear_bound(tree, others)), point_count(tree))
                if others:
                    more = Fraction(*linear_bound(tree, allowed + [chance.choice(others)]))
                    self.assertGreaterEqual(more, bound)

    def test_both_halves_can_meet(self):
        # For words with a base that is a prime power lots of both sides of the least distance are as great as can be.
        for q, n in ((2, 3), (3, 3), (5, 4), (7, 6), (4, 4)):
            for d in range(1, n + 2):
                first = linear_bound(("words", n, q), list(range(d, n + 1)))
                second = linear_bound(("words", n, q), list(range(1, d)))
                if q >= n:
                    self.assertEqual((first, second), ((q ** (n - d + 1), 1), (q ** (d - 1), 1)))


class Lots(unittest.TestCase):
    def test_no_lot_has_more_points(self):
        chance = random.Random(84)
        for tree in WHOLE:
            if point_count(tree) <= 36:
                for allowed in some_allowed(tree, chance, 5):
                    found = greatest(tree, allowed, limit=10 ** 6)
                    self.assertLessEqual(len(found), greatest_size(tree, allowed))

    def test_no_other_lot_has_more_points(self):
        chance = random.Random(85)
        for tree in WHOLE + GREAT:
            for _ in range(3):
                lot = list({chance.randrange(point_count(tree)): True for _ in range(chance.choice((2, 5, 20)))})
                self.assertLessEqual(len(lot), greatest_size(tree, kinds_in(tree, lot)))

    def test_known_bounds(self):
        for tree, allowed, bound in (
                (("words", 7, 2), [3, 4, 5, 6, 7], (16, 1)), (("words", 24, 2), list(range(8, 25)), (4096, 1)),
                (("words", 23, 2), list(range(7, 24)), (4096, 1)), (("words", 11, 3), list(range(5, 12)), (729, 1)),
                (("words", 6, 2), [3, 4, 5, 6], (8, 1)), (("words", 4, 3), [3, 4], (9, 1)), (("words", 2, 3), [2], (3, 1)),
                (("sets", 7, 3), [2], (7, 1)), (("sets", 24, 8), [4, 6, 8], (759, 1)), (("sets", 8, 4), [2, 4], (14, 1)),
                (("words", 1, 1000), [1], (1000, 1)), (("sets", 6, 3), [1], (4, 1)), (("words", 16, 2), [8, 16], (32, 1)),
                (("words", 4, 2), [3, 4], (8, 3)), (("words", 5, 2), [3, 4, 5], (4, 1)), (("sets", 80, 1), [1], (80, 1))):
            with self.subTest(tree):
                self.assertEqual(linear_bound(tree, allowed), bound)
                self.assertEqual(linear_bound(tree, tuple(allowed[::-1])), bound)

    def test_bounds_by_the_least_eigenvalue(self):
        # Of the one kind that is allowed alone: its valency, over its least eigenvalue, taken from 1.
        self.assertEqual(linear_bound(samples.SHRIKHANDE, [1]), (4, 1))
        self.assertEqual(linear_bound(("sets", 5, 2), [2]), (5, 2))
        self.assertEqual((greatest_size(("sets", 5, 2), [2]), len(greatest(("sets", 5, 2), [2]))), (2, 2))
        self.assertEqual(linear_bound(("sets", 5, 2), [1]), (4, 1))

    def test_shares_that_are_told_are_those_of_a_lot(self):
        tree = ("sets", 7, 3)
        lines = [point for point in range(35) if set_at(tree, point) in
                 {(0, 1, 2), (0, 3, 4), (0, 5, 6), (1, 3, 5), (1, 4, 6), (2, 3, 6), (2, 4, 5)}]
        self.assertEqual(best_shares(tree, [2]), shares(tree, lines))

    def test_the_same_scheme_told_in_another_way(self):
        chance = random.Random(88)
        for tree in (("words", 3, 2), ("words", 2, 4), ("sets", 6, 3), ("sets", 5, 2), ("words", 4, 2)):
            listed = ("listed", kind_table(tree))
            for allowed in some_allowed(tree, chance, 6):
                self.assertEqual(linear_bound(listed, allowed), linear_bound(tree, allowed))
            self.assertEqual(bounds_from(listed), bounds_from(tree))


class BoundsFrom(unittest.TestCase):
    def test_bounds_from_kinds_on(self):
        for tree in WHOLE + THIRTY[:2] + THIRTY[4:6] + GREAT[-3:]:
            kinds = kind_count(tree)
            found = bounds_from(tree)
            with self.subTest(tree):
                self.assertEqual(found, [linear_bound(tree, list(range(kind, kinds))) for kind in range(1, kinds)])

    def test_they_fall(self):
        for tree in WHOLE + GREAT:
            found = fractions(bounds_from(tree))
            self.assertEqual(len(found), kind_count(tree) - 1)
            self.assertEqual(found, sorted(found, reverse=True))
            if found:
                self.assertEqual(found[0], point_count(tree))
                self.assertGreaterEqual(found[-1], 2)

    def test_known_ones(self):
        self.assertEqual(bounds_from(("words", 2, 2)), [(4, 1), (2, 1)])
        self.assertEqual(bounds_from(("words", 4, 7)), [(7 ** 4, 1), (7 ** 3, 1), (49, 1), (7, 1)])
        self.assertEqual(bounds_from(("words", 20, 1000)), [(1000 ** at, 1) for at in range(20, 0, -1)])
        self.assertEqual(bounds_from(samples.ROWS_24), [(24, 1)])


class OnePoint(unittest.TestCase):
    def test_the_scheme_of_one_point(self):
        for tree in (samples.ONE_POINT, ("listed", [[0]]), ("product", samples.ONE_POINT, samples.ONE_POINT)):
            self.assertEqual((linear_bound(tree, []), greatest_size(tree, ()), bounds_from(tree)), ((1, 1), 1, []))
            self.assertEqual((best_shares(tree, []), best_weights(tree, [])), (((1, 1),), ((1, 1),)))
            for call in FUNCTIONS:
                with self.assertRaises(InvalidQuestion):
                    call(tree, [1])


class Search(unittest.TestCase):
    def test_exchanges_that_raise_nothing_end(self):
        # A well-known one (of Chvatal) that goes round for ever where the greatest price alone is looked at.
        conditions, worths = [[1, -11, -5, 18], [1, -3, -1, 2], [1, 0, 0, 0]], [10, -57, -9, -24]
        tableau = Tableau(conditions, worths)
        tableau.cells[0][-1] = tableau.cells[1][-1] = 0
        tableau.climb({0: True, 1: True, 2: True, 3: True})
        self.assertEqual(tableau.value(), tableau.bottom)
        values = [Fraction(value, tableau.bottom) for value in tableau.unknown_values()]
        self.assertEqual(values, [1, 0, 1, 0])
        prices = [Fraction(price, tableau.bottom) for price in tableau.prices()]
        self.assertGreaterEqual(min(prices), 0)
        for at, worth in enumerate(worths):
            self.assertGreaterEqual(sum(price * row[at] for price, row in zip(prices, conditions)), worth)

    def test_unknowns_that_are_not_free_stay_at_zero(self):
        tableau = Tableau([[1, 1, 0], [0, 1, 1]], [3, 5, 4])
        tableau.climb({})
        self.assertEqual((tableau.value(), tableau.unknown_values(), tableau.prices()), (0, [0, 0, 0], [0, 0]))
        tableau.climb({1: True})
        self.assertEqual([Fraction(value, tableau.bottom) for value in tableau.unknown_values()], [0, 1, 0])
        tableau.climb({0: True, 1: True, 2: True})
        self.assertEqual(Fraction(tableau.value(), tableau.bottom), 7)
        self.assertEqual([Fraction(value, tableau.bottom) for value in tableau.unknown_values()], [1, 0, 1])

    def test_it_ends_for_random_kinds(self):
        chance = random.Random(87)
        for tree in THIRTY:
            for _ in range(12):
                allowed = chance.sample(range(1, 30), chance.randrange(1, 30))
                top, bottom = linear_bound(tree, allowed)
                self.assertEqual(gcd(top, bottom), 1)
                self.assertTrue(bottom <= top <= bottom * point_count(tree))


class Questions(unittest.TestCase):
    def test_thirty_kinds_and_one_more(self):
        for tree in THIRTY:
            self.assertEqual(kind_count(tree), 30)
            self.assertEqual(linear_bound(tree, [29]), bounds_from(tree)[-1])
        self.assertEqual(kind_count(MORE_KINDS[0]), 31)
        for tree in MORE_KINDS:
            for call in FUNCTIONS:
                for allowed in ([], [1], [0], [1, 1]):
                    with self.subTest(tree), self.assertRaises(InvalidQuestion):
                        call(tree, allowed)
            with self.subTest(tree), self.assertRaises(InvalidQuestion):
                bounds_from(tree)

    def test_eigenvalues_that_are_no_integers(self):
        for tree in (samples.PENTAGON, samples.EIGHT_KINDS, ("product", samples.PENTAGON, ("words", 2, 2)),
                     ("product", ("sets", 4, 2), ("product", samples.PAIR, samples.PENTAGON))):
            for call in FUNCTIONS:
                for allowed in ([], [1], [0]):
                    with self.subTest(tree), self.assertRaises(InvalidQuestion):
                        call(tree, allowed)
            with self.subTest(tree), self.assertRaises(InvalidQuestion):
                bounds_from(tree)

    def test_kinds_that_cannot_be_allowed(self):
        for tree in (("words", 3, 2), ("sets", 6, 3), samples.CUBE_OF_KINDS, ("product", samples.PAIR, ("words", 2, 3)),
                     ("words", 20, 1000)):
            kinds = kind_count(tree)
            for allowed in ([0], [1, 0], [kinds], [-1], [1, 1], [1, 2, 1], (2, 2), [10 ** 60], [1, kinds], list(range(kinds))):
                for call in FUNCTIONS:
                    with self.subTest(tree, allowed=allowed), self.assertRaises(InvalidQuestion):
                        call(tree, allowed)

    def test_what_is_no_scheme_ahead_of_all(self):
        for tree in (("words", 0, 2), samples.NINE_KINDS, ("listed", [[0, 1], [1, 1]])):
            for call in FUNCTIONS:
                with self.assertRaises(InvalidScheme):
                    call(tree, [0, 0])
            with self.assertRaises(InvalidScheme):
                bounds_from(tree)

    def test_kinds_of_values(self):
        for tree, allowed in ((("words", 5, 2), (4, 3)), (("sets", 5, 2), [2]), (samples.ONE_POINT, [])):
            self.assertIs(type(greatest_size(tree, allowed)), int)
            self.assertIs(type(bounds_from(tree)), list)
            self.assertIs(type(best_shares(tree, allowed)), tuple)
            self.assertIs(type(best_weights(tree, allowed)), tuple)
            for one in (linear_bound(tree, allowed), *bounds_from(tree), *best_shares(tree, allowed),
                        *best_weights(tree, allowed)):
                self.assertIs(type(one), tuple)
                self.assertEqual((len(one), gcd(*one)), (2, 1))
                self.assertGreater(one[1], 0)

    def test_arguments_and_later_answers_stay_as_they_were(self):
        rows = [[0, 1, 2, 2], [1, 0, 2, 2], [2, 2, 0, 1], [2, 2, 1, 0]]
        tree, allowed = ("product", ("listed", rows), ("words", 2, 3)), [8, 2, 5]
        kept = copy.deepcopy((tree, allowed))
        answers = []
        for _ in range(2):
            answers.append((linear_bound(tree, allowed), greatest_size(tree, allowed), best_shares(tree, allowed),
                            best_weights(tree, allowed), bounds_from(tree)))
            bounds_from(tree).clear()
            self.assertEqual((tree, allowed), kept)
        self.assertEqual(answers[0], answers[1])


if __name__ == "__main__":
    unittest.main()
