"""The judging of weights and of shares (points 81, 82, 84, 85, 88, 90 and 91)."""

import ast
import copy
import pathlib
import random
import unittest
from fractions import Fraction
from unittest import mock

from schemebound.bounds import best_shares, best_weights, linear_bound
from schemebound.eigenvalues import dual_eigenvalues, multiplicities
from schemebound.errors import InvalidQuestion, InvalidScheme
from schemebound.judging import are_shares, shows_bound, weights_bound
from schemebound.lots import kinds_in, shares
from schemebound.schemes import kind_count, point_count
from schemebound.simplex import Tableau

import samples

WHOLE = tuple(tree for tree in samples.SMALL if samples.has_whole_eigenvalues(tree)) + samples.LISTED_WHOLE
THIRTY = (("words", 29, 2), ("words", 29, 117), ("sets", 60, 29), ("product", ("words", 9, 2), ("words", 2, 5)))
GREAT = THIRTY + (("words", 20, 1000), ("product", samples.CUBE_OF_KINDS, ("words", 2, 1000)))
MORE_KINDS = (("words", 30, 2), ("sets", 60, 30), ("product", ("words", 15, 2), ("words", 1, 2)))
NOT_WHOLE = (samples.PENTAGON, samples.EIGHT_KINDS, ("product", samples.PENTAGON, ("words", 2, 2)))
PACKAGE = pathlib.Path(__file__).resolve().parent.parent / "schemebound"


def told(fraction):
    """A fraction as the program tells it."""
    return (fraction.numerator, fraction.denominator)


def passed(values, chance):
    """Fractions as lists or tuples, often not in lowest terms."""
    found = []
    for value in values:
        by = chance.choice((1, 1, 2, 3, 10))
        pair = (value.numerator * by, value.denominator * by)
        found.append(chance.choice((list, tuple))(pair))
    return chance.choice((list, tuple))(found)


def duals_of(tree):
    """The dual eigenvalues Q(i, j) as fractions of Python."""
    return [[Fraction(*one) for one in row] for row in dual_eigenvalues(tree)]


def told_bound(tree, duals, allowed, weights):
    """What right weights show, by the words of point 84, or None."""
    spaces = range(len(weights))
    if weights[0] != 1 or min(weights) < 0:
        return None
    if any(sum(weights[j] * duals[i][j] for j in spaces) > 0 for i in allowed):
        return None
    return told(sum(weight * many for weight, many in zip(weights, multiplicities(tree))))


def told_right(duals, allowed, some):
    """Whether these are right shares, by the words of point 82."""
    kinds = range(len(some))
    if some[0] != 1 or min(some) < 0 or any(some[i] != 0 for i in kinds if i > 0 and i not in allowed):
        return False
    return all(sum(some[i] * duals[i][j] for i in kinds) >= 0 for j in kinds)


def some_allowed(tree, chance, many):
    """Some lists of different kinds from 1 on, in whatever order; none of them and all of them, too."""
    kinds = range(1, kind_count(tree))
    return [[], list(kinds)] + [chance.sample(kinds, chance.randrange(len(kinds) + 1)) for _ in range(many)]


def near(values, chance):
    """Some values beside these: one of them a little more or less, or none changed."""
    changed = list(values)
    at = chance.randrange(len(changed))
    changed[at] += Fraction(chance.choice((-1, 0, 1)), chance.choice((1, 2, 7, 10 ** 9)))
    return changed


class Judged(unittest.TestCase):
    def test_what_the_search_finds_is_right(self):
        chance = random.Random(1)
        for tree in WHOLE + GREAT:
            for allowed in some_allowed(tree, chance, 2):
                weights, found = best_weights(tree, allowed), best_shares(tree, allowed)
                with self.subTest(tree, allowed=allowed):
                    self.assertEqual(weights_bound(tree, allowed, weights), linear_bound(tree, allowed))
                    self.assertIs(are_shares(tree, allowed, found), True)
                    self.assertIs(shows_bound(tree, allowed, weights, found), True)
                    self.assertEqual(weights_bound(tree, tuple(allowed[::-1]), list(map(list, weights))),
                                     linear_bound(tree, allowed))

    def test_what_is_near_to_it(self):
        chance = random.Random(2)
        outcomes = set()
        for tree in WHOLE:
            duals = duals_of(tree)
            for allowed in some_allowed(tree, chance, 6):
                best = [Fraction(*one) for one in best_weights(tree, allowed)]
                most = [Fraction(*one) for one in best_shares(tree, allowed)]
                for _ in range(4):
                    weights, some = near(best, chance), near(most, chance)
                    bound, right = told_bound(tree, duals, allowed, weights), told_right(duals, allowed, some)
                    given, beside = passed(weights, chance), passed(some, chance)
                    self.assertEqual(weights_bound(tree, allowed, given), bound)
                    self.assertIs(are_shares(tree, allowed, beside), right)
                    expected = bound is not None and right and bound == told(sum(some))
                    self.assertIs(shows_bound(tree, allowed, given, beside), expected)
                    if bound is not None and right:
                        self.assertGreaterEqual(Fraction(*bound), sum(some))
                    outcomes.add((bound is not None, right, expected))
        self.assertEqual(outcomes, {(True, True, True), (True, True, False), (True, False, False),
                                    (False, True, False), (False, False, False)})

    def test_weights_and_shares_at_random(self):
        chance = random.Random(3)
        outcomes = []
        for tree in (("words", 2, 2), ("words", 3, 2), ("words", 2, 3), ("sets", 4, 2), ("sets", 6, 3), samples.TRIANGLE_PAIR,
                     ("product", samples.PAIR, ("words", 1, 3)), samples.LISTED_WHOLE[5], samples.ROWS_24):
            duals = duals_of(tree)
            for allowed in some_allowed(tree, chance, 10):
                for _ in range(30):
                    weights = [Fraction(1)] + [Fraction(chance.randrange(0, 7), chance.randrange(1, 5)) for _ in duals[1:]]
                    some = [Fraction(1)] + [Fraction(chance.randrange(0, 5), chance.randrange(1, 4)) *
                                            (kind in allowed) for kind in range(1, len(duals))]
                    bound, right = told_bound(tree, duals, allowed, weights), told_right(duals, allowed, some)
                    self.assertEqual(weights_bound(tree, allowed, passed(weights, chance)), bound)
                    self.assertIs(are_shares(tree, allowed, passed(some, chance)), right)
                    outcomes.append((bound is None, right))
        for outcome in ((True, True), (True, False), (False, True), (False, False)):
            self.assertGreater(outcomes.count(outcome), 50)

    def test_sums_that_are_just_zero(self):
        # For the words of two figures by 2 the sum for the kind 2 is 1 - 2 a + b with the weights 1, a and b.
        tree = ("words", 2, 2)
        for half, bound in (((1, 2), (2, 1)), ((499, 1000), None), ((501, 1000), (1001, 500))):
            self.assertEqual(weights_bound(tree, [2], [(1, 1), half, (0, 1)]), bound)
        # With the shares 1, 0 and c the sum for the space 1 is 2 - 2 c.
        for c, right in (((1, 1), True), ((999, 1000), True), ((1001, 1000), False), ((0, 1), True), ((-1, 1000), False)):
            self.assertIs(are_shares(tree, [2], [(1, 1), (0, 1), c]), right)
        tiny = 10 ** 60
        self.assertIsNone(weights_bound(tree, [2], [(1, 1), (tiny - 1, 2 * tiny), (0, 1)]))
        self.assertIs(are_shares(tree, [2], [(1, 1), (0, 1), (tiny + 1, tiny)]), False)

    def test_all_allowed_kinds_are_looked_at_and_no_others(self):
        tree = ("words", 3, 2)
        # The sums are 1 - w for the kind 3, 1 + w for 2, and so on.
        weights = [(1, 1), (0, 1), (0, 1), (1, 1)]
        self.assertEqual(weights_bound(tree, [3], weights), (2, 1))
        self.assertEqual(weights_bound(tree, [1, 3], weights), (2, 1))
        self.assertEqual(weights_bound(tree, [3, 1], weights), (2, 1))
        for allowed in ([2], [2, 1], [1, 2], [1, 2, 3], [3, 2]):
            self.assertIsNone(weights_bound(tree, allowed, weights))
        self.assertEqual(weights_bound(tree, [], [(1, 1)] + [(0, 1)] * 3), (1, 1))
        self.assertEqual(weights_bound(tree, [], [(1, 1)] * 4), (8, 1))

    def test_the_first_weight_and_the_first_share(self):
        for tree in (("words", 2, 2), ("sets", 4, 2)):
            for first, right in (((1, 1), True), ([7, 7], True), ((2, 1), False), ((0, 1), False), ((1, 2), False),
                                 ((-1, 1), False), ((10 ** 60 + 1, 10 ** 60), False)):
                rest = [(5, 1)] * 2
                self.assertEqual(weights_bound(tree, [], [first] + rest) is not None, right)
                self.assertIs(are_shares(tree, [], [first, (0, 1), (0, 1)]), right)
                self.assertIs(shows_bound(tree, [], [first, (0, 1), (0, 1)], [(1, 1), (0, 1), (0, 1)]), right)
                self.assertIs(shows_bound(tree, [], [(1, 1), (0, 1), (0, 1)], [first, (0, 1), (0, 1)]), right)

    def test_weights_and_shares_below_zero(self):
        tree = ("words", 3, 2)
        self.assertEqual(weights_bound(tree, [], [(1, 1), (0, 1), (0, 1), (0, 3)]), (1, 1))
        for at in range(1, 4):
            weights = [(1, 1)] * 4
            weights[at] = (-1, 10 ** 9)
            self.assertIsNone(weights_bound(tree, [], weights))
            some = [(1, 1), (0, 1), (0, 1), (0, 1)]
            some[at] = [-1, 10 ** 9]
            self.assertIs(are_shares(tree, [1, 2, 3], some), False)

    def test_shares_of_kinds_that_are_not_allowed(self):
        tree = ("words", 3, 2)
        some = [(1, 1), (0, 1), (3, 1), (0, 1)]
        for allowed, right in (([2], True), ([1, 2, 3], True), ([3, 2], True), ([], False), ([1], False), ([1, 3], False)):
            self.assertIs(are_shares(tree, allowed, some), right)
        self.assertIs(are_shares(tree, [2], [(1, 1), (0, 1), (3, 1), (1, 10 ** 9)]), False)

    def test_both_have_to_be_right_and_to_meet(self):
        tree = ("words", 2, 2)
        weights, some = [(1, 1), (1, 2), (0, 1)], [(1, 1), (0, 1), (1, 1)]
        self.assertIs(shows_bound(tree, [2], weights, some), True)
        self.assertIs(shows_bound(tree, [2], [[2, 2], [3, 6], [0, 9]], ([5, 5], [0, 4], [2, 2])), True)
        self.assertIs(shows_bound(tree, [2], [(1, 1), (1, 1), (0, 1)], some), False)
        self.assertIs(shows_bound(tree, [2], weights, [(1, 1), (0, 1), (1, 2)]), False)
        # The sums are the same here, but one of both is not right.
        self.assertIs(shows_bound(tree, [2], [(1, 1), (0, 1), (1, 1)], some), False)
        self.assertIs(shows_bound(tree, [2], weights, [(1, 1), (1, 1), (0, 1)]), False)

    def test_lots_have_right_shares(self):
        chance = random.Random(4)
        for tree in WHOLE + GREAT:
            many = point_count(tree)
            for _ in range(3):
                lot = list({chance.randrange(many): True for _ in range(chance.choice((1, 2, 5, 20)))})
                kinds, found = kinds_in(tree, lot), shares(tree, lot)
                self.assertIs(are_shares(tree, kinds, found), True)
                self.assertEqual(sum(Fraction(*one) for one in found), len(lot))
                if kinds:
                    self.assertIs(are_shares(tree, kinds[1:], found), False)

    def test_the_scheme_of_one_point(self):
        for tree in (samples.ONE_POINT, ("listed", [[0]]), ("product", samples.ONE_POINT, samples.ONE_POINT)):
            self.assertEqual(weights_bound(tree, [], [[3, 3]]), (1, 1))
            self.assertIsNone(weights_bound(tree, (), [(3, 1)]))
            self.assertIs(are_shares(tree, (), [(1, 1)]), True)
            self.assertIs(are_shares(tree, [], [(1, 2)]), False)
            self.assertIs(shows_bound(tree, [], ((1, 1),), [[1, 1]]), True)
            for call in (weights_bound, are_shares):
                with self.assertRaises(InvalidQuestion):
                    call(tree, [1], [(1, 1)])


class NoSearch(unittest.TestCase):
    def test_the_judge_makes_no_search(self):
        tree = ("words", 6, 2)
        weights, some = best_weights(tree, [3, 4, 5, 6]), best_shares(tree, [3, 4, 5, 6])
        with mock.patch.object(Tableau, "climb", side_effect=AssertionError), \
                mock.patch.object(Tableau, "__init__", side_effect=AssertionError):
            self.assertEqual(weights_bound(tree, [3, 4, 5, 6], weights), (8, 1))
            self.assertIs(are_shares(tree, [3, 4, 5, 6], some), True)
            self.assertIs(shows_bound(tree, [3, 4, 5, 6], weights, some), True)

    def test_it_takes_nothing_from_the_search(self):
        waiting, seen = ["schemebound.judging"], set()
        while waiting:
            name = waiting.pop()
            seen.add(name)
            text = (PACKAGE / (name.split(".")[1] + ".py")).read_text(encoding="utf-8")
            for node in ast.parse(text).body:
                if isinstance(node, ast.ImportFrom) and node.module.startswith("schemebound.") and node.module not in seen:
                    waiting.append(node.module)
        self.assertIn("schemebound.eigenvalues", seen)
        self.assertFalse(seen & {"schemebound.simplex", "schemebound.bounds", "schemebound.greatest"})


class Questions(unittest.TestCase):
    def assert_raises(self, error, tree, allowed, weights, some):
        for call in (lambda: weights_bound(tree, allowed, weights), lambda: are_shares(tree, allowed, some),
                     lambda: shows_bound(tree, allowed, weights, some)):
            with self.subTest(tree, allowed=allowed), self.assertRaises(error):
                call()

    def test_thirty_kinds_and_one_more(self):
        for tree in THIRTY:
            one = [(1, 1)] + [(0, 1)] * 29
            self.assertEqual(kind_count(tree), 30)
            self.assertEqual(weights_bound(tree, [], one), (1, 1))
            self.assertEqual(weights_bound(tree, list(range(1, 30)), [(1, 1)] * 30), (point_count(tree), 1))
            self.assertIs(shows_bound(tree, [], one, one), True)
        self.assertEqual(kind_count(MORE_KINDS[0]), 31)
        for tree in MORE_KINDS:
            one = [(1, 1)] + [(0, 1)] * (kind_count(tree) - 1)
            for allowed in ([], [1], [0], [1, 1]):
                self.assert_raises(InvalidQuestion, tree, allowed, one, one)

    def test_eigenvalues_that_are_no_integers(self):
        for tree in NOT_WHOLE:
            one = [(1, 1)] + [(0, 1)] * (kind_count(tree) - 1)
            for allowed in ([], [1], [0]):
                self.assert_raises(InvalidQuestion, tree, allowed, one, one)

    def test_kinds_that_cannot_be_allowed(self):
        for tree in (("words", 3, 2), ("sets", 6, 3), samples.CUBE_OF_KINDS, ("words", 20, 1000)):
            kinds = kind_count(tree)
            one = [(1, 1)] + [(0, 1)] * (kinds - 1)
            for allowed in ([0], [1, 0], [kinds], [-1], [1, 1], [1, 2, 1], (2, 2), [10 ** 60], list(range(kinds))):
                self.assert_raises(InvalidQuestion, tree, allowed, one, one)

    def test_fractions_that_are_none_or_too_many_or_too_few(self):
        tree = ("words", 2, 2)
        good = [(1, 1), (0, 1), (0, 1)]
        for some in ([], [(1, 1)], good[:2], good + [(0, 1)], [(1, 1), (0, 0), (0, 1)], [(1, 1), (0, -1), (0, 1)],
                     [(1, 0), (0, 1), (0, 1)], [(1, 1), (0, 1), (1,)], [(1, 1), (0, 1), ()], [(1, 1), (0, 1), (0, 1, 1)],
                     [(1, 1), (1, 1), (1, -5)], [[-1, -1], [0, 1], [0, 1]]):
            self.assert_raises(InvalidQuestion, tree, [2], some, some)
            with self.assertRaises(InvalidQuestion):
                shows_bound(tree, [2], good, some)
            with self.assertRaises(InvalidQuestion):
                shows_bound(tree, [2], some, good)
            # Weights that are not right do not hide that the shares are no fractions, nor the other way round.
            with self.assertRaises(InvalidQuestion):
                shows_bound(tree, [2], [(5, 1)] * 3, some)
            with self.assertRaises(InvalidQuestion):
                shows_bound(tree, [2], some, [(5, 1)] * 3)
        self.assertIsNone(weights_bound(tree, [2], good))

    def test_what_is_no_scheme_ahead_of_all(self):
        for tree in (("words", 0, 2), samples.NINE_KINDS, ("listed", [[0, 1], [1, 1]]), ("product", ("words", 2, 2), ())):
            for allowed in ([], [0, 0]):
                for some in ([], [(1, 0)]):
                    self.assert_raises(InvalidScheme, tree, allowed, some, some)

    def test_kinds_of_values(self):
        found = weights_bound(("words", 2, 2), [2], [[2, 2], [3, 6], [0, 2]])
        self.assertEqual((found, type(found), [type(one) for one in found]), ((2, 1), tuple, [int, int]))
        found = weights_bound(("words", 2, 2), [2], [[1, 1], [3, 4], [1, 6]])
        self.assertEqual(found, (8, 3))
        self.assertIsNone(weights_bound(("words", 2, 2), [2], [(2, 1), (1, 1), (1, 1)]))

    def test_arguments_stay_as_they_were(self):
        rows = [[0, 1, 2, 2], [1, 0, 2, 2], [2, 2, 0, 1], [2, 2, 1, 0]]
        tree, allowed, weights, some = ("listed", rows), [2, 1], [[2, 2], [3, 3], [4, 4]], [[2, 2], [3, 3], [4, 2]]
        kept = copy.deepcopy((tree, allowed, weights, some))
        answers = []
        for _ in range(2):
            answers.append((weights_bound(tree, allowed, weights), are_shares(tree, allowed, some),
                            shows_bound(tree, allowed, weights, some)))
            self.assertEqual((tree, allowed, weights, some), kept)
        self.assertEqual(answers, [((4, 1), True, True)] * 2)


if __name__ == "__main__":
    unittest.main()
