"""Schemes listed, and points and kinds renamed (points 76 to 80)."""

import copy
import random
import unittest

from schemebound.bounds import best_shares, linear_bound
from schemebound.eigenvalues import dual_eigenvalues, eigenvalues, multiplicities
from schemebound.errors import InvalidQuestion, InvalidScheme
from schemebound.judging import are_shares
from schemebound.lots import pair_counts
from schemebound.renaming import kinds_renamed, listed, renamed, same_kinds, undone
from schemebound.schemes import checked, is_scheme, kind_count, kind_table, point_count

import samples

LISTABLE = tuple(tree for tree in samples.SMALL if point_count(tree) <= 24 and kind_count(tree) <= 8) + samples.LISTED_WHOLE
# 25 points; 9 kinds; both.
TOO_GREAT = (
    ("words", 1, 25), ("words", 2, 5), ("words", 5, 2), ("sets", 25, 1), ("words", 20, 1000),
    ("product", ("words", 2, 2), ("words", 2, 2)), ("product", ("words", 2, 2), ("sets", 4, 2)), ("words", 8, 2),
    ("product", samples.CUBE_OF_KINDS, samples.PAIR),
)
NO_SCHEMES = (("words", 0, 2), samples.NINE_KINDS, samples.ROWS_25, ("listed", [[0, 1], [1, 1]]), ())


def shuffled(many, chance):
    """Names for so many things."""
    return chance.sample(range(many), many)


def kinds_shuffled(tree, chance):
    """Names for the kinds of a scheme."""
    return [0] + [1 + name for name in shuffled(kind_count(tree) - 1, chance)]


class Listed(unittest.TestCase):
    def test_the_same_points_and_kinds(self):
        for tree in LISTABLE:
            found = listed(tree)
            with self.subTest(tree):
                self.assertEqual(found, ("listed", kind_table(tree)))
                self.assertEqual(checked(found), found)
                self.assertEqual((point_count(found), kind_count(found)), (point_count(tree), kind_count(tree)))
                self.assertEqual(listed(found), found)
        self.assertEqual(listed(("words", 2, 2)), ("listed", ((0, 1, 1, 2), (1, 0, 2, 1), (1, 2, 0, 1), (2, 1, 1, 0))))

    def test_tuples_also_within(self):
        for tree in (("listed", [[0, 1], [1, 0]]), ("words", 2, 2), ("product", ("listed", [[0]]), ("sets", 4, 2))):
            found = listed(tree)
            self.assertEqual([type(found), type(found[1])] + [type(row) for row in found[1]], [tuple] * (2 + len(found[1])))

    def test_24_and_25_points_8_and_9_kinds(self):
        for tree, points, kinds in ((("words", 1, 24), 24, 2), (samples.ROWS_24, 24, 2), (samples.EIGHT_KINDS, 15, 8),
                                    (("product", ("words", 1, 2), ("words", 1, 12)), 24, 4), (samples.CUBE_OF_KINDS, 8, 8),
                                    (("product", samples.TRIANGLE_PAIR, samples.PAIR), 8, 6)):
            self.assertEqual((point_count(tree), kind_count(tree)), (points, kinds))
            self.assertEqual(listed(tree), ("listed", kind_table(tree)))
        self.assertEqual((point_count(TOO_GREAT[0]), kind_count(TOO_GREAT[0])), (25, 2))
        self.assertEqual((point_count(TOO_GREAT[5]), kind_count(TOO_GREAT[5])), (16, 9))
        for tree in TOO_GREAT:
            with self.subTest(tree), self.assertRaises(InvalidQuestion):
                listed(tree)


class SameKinds(unittest.TestCase):
    def test_schemes_that_are_the_same(self):
        for one, other, same in (
                (("words", 2, 2), ("listed", kind_table(("words", 2, 2))), True), (("words", 1, 7), ("sets", 7, 1), True),
                (("words", 1, 2), samples.PAIR, True), (("words", 2, 2), ("sets", 4, 2), False),
                (("words", 1, 2), ("words", 1, 3), False), (samples.PENTAGON, kinds_renamed(samples.PENTAGON, [0, 2, 1]), False),
                (("product", samples.ONE_POINT, ("words", 3, 2)), ("words", 3, 2), True), (samples.ONE_POINT, samples.ONE_POINT, True),
                (("product", samples.PAIR, ("words", 1, 3)), ("product", ("words", 1, 3), samples.PAIR), False),
                (("listed", [[0, 1], [1, 0]]), samples.PAIR, True)):
            with self.subTest(one, other=other):
                self.assertIs(same_kinds(one, other), same)
                self.assertIs(same_kinds(other, one), same)

    def test_all_pairs(self):
        for one in LISTABLE:
            for other in LISTABLE:
                self.assertIs(same_kinds(one, other), kind_table(one) == kind_table(other))

    def test_the_whole_of_the_first_one_ahead_of_the_second_one(self):
        for tree in TOO_GREAT:
            for other in NO_SCHEMES + TOO_GREAT + (("words", 2, 2),):
                with self.assertRaises(InvalidQuestion):
                    same_kinds(tree, other)
            with self.assertRaises(InvalidQuestion):
                same_kinds(("words", 2, 2), tree)
        for tree in NO_SCHEMES:
            for other in NO_SCHEMES + TOO_GREAT + (("words", 2, 2),):
                with self.assertRaises(InvalidScheme):
                    same_kinds(tree, other)
            with self.assertRaises(InvalidScheme):
                same_kinds(("words", 2, 2), tree)


class Points(unittest.TestCase):
    def test_named_points_have_the_kind_of_the_points(self):
        chance = random.Random(77)
        for tree in LISTABLE:
            many = point_count(tree)
            for names in (shuffled(many, chance), tuple(shuffled(many, chance)), list(range(many))[::-1]):
                found = renamed(tree, names)
                with self.subTest(tree, names=names):
                    self.assertEqual(checked(found), found)
                    for x, row in enumerate(kind_table(tree)):
                        for y, kind in enumerate(row):
                            self.assertEqual(found[1][names[x]][names[y]], kind)
                    self.assertEqual(renamed(found, undone(names)), listed(tree))
                    self.assertEqual(renamed(renamed(tree, undone(names)), names), listed(tree))
            self.assertEqual(renamed(tree, list(range(many))), listed(tree))

    def test_which_point_gets_which_name(self):
        # The point 0 gets the name 2, the point 1 the name 0, the point 2 the name 1.
        tree = ("listed", ((0, 1, 2, 2), (1, 0, 2, 2), (2, 2, 0, 1), (2, 2, 1, 0)))
        self.assertEqual(renamed(tree, [2, 0, 1, 3])[1], ((0, 2, 1, 2), (2, 0, 2, 1), (1, 2, 0, 2), (2, 1, 2, 0)))
        self.assertEqual(renamed(("words", 2, 2), [1, 0, 2, 3])[1][0], (0, 1, 2, 1))

    def test_what_renaming_keeps(self):
        chance = random.Random(78)
        for tree in samples.LISTED_WHOLE + (("words", 3, 2), ("sets", 5, 2), ("product", samples.PAIR, ("words", 2, 3))):
            names = shuffled(point_count(tree), chance)
            plain, found = listed(tree), renamed(tree, names)
            self.assertEqual(eigenvalues(found), eigenvalues(plain))
            self.assertEqual(multiplicities(found), multiplicities(plain))
            lot = chance.sample(range(len(names)), chance.randrange(1, len(names) + 1))
            self.assertEqual(pair_counts(found, [names[point] for point in lot]), pair_counts(tree, lot))

    def test_what_are_no_names(self):
        for names in ([], [0, 1, 2], [0, 1, 2, 3, 4], [0, 1, 2, 2], [0, 0, 0, 0], [1, 2, 3, 4], [0, 1, 2, 4], [-1, 0, 1, 2],
                      (0, 1, 3, 3), [0, 1, 2, 10 ** 60], [3, 2, 1, -1]):
            for tree in (("words", 2, 2), ("listed", kind_table(("words", 2, 2))), samples.TRIANGLE_PAIR):
                with self.subTest(names), self.assertRaises(InvalidQuestion):
                    renamed(tree, names)


class Kinds(unittest.TestCase):
    def test_the_same_points_have_the_named_kind(self):
        chance = random.Random(79)
        for tree in LISTABLE:
            for _ in range(3):
                names = kinds_shuffled(tree, chance)
                found = kinds_renamed(tree, names)
                with self.subTest(tree, names=names):
                    self.assertEqual(found, ("listed", tuple(tuple(names[kind] for kind in row) for row in kind_table(tree))))
                    self.assertEqual(checked(found), found)
                    self.assertEqual(kinds_renamed(found, undone(names)), listed(tree))
                    self.assertEqual(kinds_renamed(tree, tuple(names)), found)
            self.assertEqual(kinds_renamed(tree, list(range(kind_count(tree)))), listed(tree))

    def test_which_kind_gets_which_name(self):
        self.assertEqual(kinds_renamed(("words", 2, 2), [0, 2, 1])[1][0], (0, 2, 2, 1))
        self.assertEqual(kinds_renamed(("words", 3, 2), [0, 2, 3, 1])[1][0], (0, 2, 2, 3, 2, 3, 3, 1))
        self.assertEqual(kinds_renamed(samples.ONE_POINT, [0]), samples.ONE_POINT)

    def test_bounds_for_named_kinds(self):
        chance = random.Random(80)
        for tree in LISTABLE:
            if not samples.has_whole_eigenvalues(tree):
                continue
            kinds = range(1, kind_count(tree))
            for _ in range(3):
                names, allowed = kinds_shuffled(tree, chance), chance.sample(kinds, chance.randrange(len(kinds) + 1))
                found = kinds_renamed(tree, names)
                named = [names[kind] for kind in allowed]
                self.assertEqual(linear_bound(found, named), linear_bound(tree, allowed))
                best = best_shares(tree, allowed)
                self.assertIs(are_shares(found, named, [best[kind] for kind in undone(names)]), True)
                # The rows stand in descending order again, and each has its numbers at the named kinds.
                rows = [tuple(row[kind] for kind in undone(names)) for row in eigenvalues(tree)]
                self.assertEqual(eigenvalues(found), sorted(rows, reverse=True))
                self.assertEqual(len(dual_eigenvalues(found)), len(names))

    def test_what_are_no_names(self):
        for tree in (("words", 3, 2), ("product", samples.PAIR, samples.PAIR), ("sets", 6, 3)):
            for names in ([], [0, 1, 2], [0, 1, 2, 3, 4], [0, 1, 2, 2], [0, 1, 1, 2], [0, 2, 3, 4], [-1, 1, 2, 3], [1, 0, 2, 3],
                          [3, 1, 2, 0], (1, 2, 3, 0), [0, 1, 2, 10 ** 60], [1, 2, 3, 4], list(range(8))):
                with self.subTest(names), self.assertRaises(InvalidQuestion):
                    kinds_renamed(tree, names)
        with self.assertRaises(InvalidQuestion):
            kinds_renamed(samples.ONE_POINT, [1])
        with self.assertRaises(InvalidQuestion):
            kinds_renamed(samples.ONE_POINT, [])


class Undone(unittest.TestCase):
    def test_names_that_undo_others(self):
        chance = random.Random(81)
        for many in list(range(12)) + [24, 1000]:
            for _ in range(3):
                names = shuffled(many, chance)
                back = undone(names)
                self.assertIs(type(back), tuple)
                self.assertEqual([back[name] for name in names], list(range(many)))
                self.assertEqual([names[name] for name in back], list(range(many)))
                self.assertEqual(undone(back), tuple(names))
        self.assertEqual((undone([]), undone(()), undone([0]), undone((2, 0, 1))), ((), (), (0,), (1, 2, 0)))

    def test_what_are_no_names(self):
        for names in ([1], [0, 0], [0, 2], [-1, 0], [1, 2, 3], [0, 1, 1], (3, 2, 1), [10 ** 60]):
            with self.subTest(names), self.assertRaises(InvalidQuestion):
                undone(names)


class Asking(unittest.TestCase):
    def test_the_order_of_errors(self):
        for tree in NO_SCHEMES:
            for names in ([], [0, 0], [1, 0]):
                for call in (lambda: renamed(tree, names), lambda: kinds_renamed(tree, names), lambda: listed(tree)):
                    with self.subTest(tree), self.assertRaises(InvalidScheme):
                        call()
        for tree in TOO_GREAT:
            for names in ([], list(range(25)), list(range(kind_count(tree)))):
                for call in (lambda: renamed(tree, names), lambda: kinds_renamed(tree, names)):
                    with self.subTest(tree), self.assertRaises(InvalidQuestion):
                        call()

    def test_arguments_stay_as_they_were(self):
        rows = [[0, 1, 2, 2], [1, 0, 2, 2], [2, 2, 0, 1], [2, 2, 1, 0]]
        tree, names, kinds = ("listed", rows), [2, 0, 3, 1], [0, 2, 1]
        kept = copy.deepcopy((tree, names, kinds))
        found = (listed(tree), renamed(tree, names), kinds_renamed(tree, kinds), undone(names), same_kinds(tree, tree))
        self.assertEqual((tree, names, kinds), kept)
        again = copy.deepcopy(found)
        rows[0][1] = rows[1][0] = 2
        rows.pop()
        names.reverse()
        kinds.reverse()
        self.assertEqual(found, again)
        self.assertTrue(all(is_scheme(one) for one in found[:3]))


if __name__ == "__main__":
    unittest.main()
