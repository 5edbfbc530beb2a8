"""Kinds put together to classes (points 22 to 27)."""

import copy
import random
import unittest

from schemebound.classes import (
    is_merging, merged_fault, merged_numbers, merged_scheme, merged_valencies, mergings,
)
from schemebound.errors import InvalidQuestion, TooMany
from schemebound.numbers import numbers_of, valencies, ways_for
from schemebound.schemes import is_scheme, kind_count, kind_table, point_count

import samples

NINE_CLASSES = ("product", ("words", 2, 2), ("words", 2, 2))
FULL = ("product", samples.CUBE_OF_KINDS, ("words", 1, 3))
GREAT = ("product", samples.CUBE_OF_KINDS, ("words", 1, 4))
SEVERAL = tuple(tree for tree in samples.SMALL if kind_count(tree) <= 6 and point_count(tree) <= 66)


def partings(things):
    """All lists of classes of some things, each class by its least thing."""
    if not things:
        yield []
        return
    for rest in partings(things[1:]):
        yield [[things[0]]] + rest
        for at in range(len(rest)):
            yield [[things[0]] + rest[at]] + rest[:at] + rest[at + 1:]


def all_classes(tree):
    """All lists of classes of the kinds of a scheme, as point 25 tells them, ascending."""
    found = ([(0,)] + sorted(tuple(some) for some in parted) for parted in partings(list(range(1, kind_count(tree)))))
    return sorted(tuple(classes) for classes in found)


def table_of_classes(tree, classes):
    """The table of the classes of all points."""
    class_of = {kind: at for at, some in enumerate(classes) for kind in some}
    return [[class_of[kind] for kind in row] for row in kind_table(tree)]


def told_fault(tree, classes):
    """The merging fault, word by word as point 24 tells it."""
    for one in range(len(classes)):
        for other in range(one, len(classes)):
            for some in classes:
                sums = {k: sum(ways_for(tree, i, j, k) for i in classes[one] for j in classes[other]) for k in some}
                if len(set(sums.values())) > 1:
                    least = min(some)
                    unlike = [kind for kind in sorted(some) if sums[kind] != sums[least]]
                    return (one, other, least, unlike[0])
    return None


class Merging(unittest.TestCase):
    def test_merging_is_where_the_classes_are_kinds_of_a_scheme(self):
        outcomes = set()
        for tree in SEVERAL:
            if point_count(tree) <= 30:
                for classes in all_classes(tree):
                    expected = samples.is_table_of_scheme(table_of_classes(tree, classes))
                    self.assertIs(is_merging(tree, classes), expected, (tree, classes))
                    self.assertIs(merged_fault(tree, classes) is None, expected)
                    outcomes.add(expected)
        self.assertEqual(outcomes, {True, False})

    def test_each_kind_by_itself_and_all_in_one(self):
        great = (("words", 40, 31), ("sets", 80, 40), ("words", 20, 1000), ("product", ("words", 5, 2), ("words", 9, 2)),
                 ("product", samples.PENTAGON, ("sets", 20, 4)))
        for tree in samples.SMALL + great:
            kinds = kind_count(tree)
            with self.subTest(tree):
                self.assertIs(is_merging(tree, [[kind] for kind in range(kinds)]), True)
                if kinds > 1:
                    classes = [[0], list(range(1, kinds))]
                    self.assertIsNone(merged_fault(tree, classes))
                    self.assertEqual(merged_valencies(tree, classes), (1, point_count(tree) - 1))

    def test_faults_by_the_words_of_the_document(self):
        chance = random.Random(24)
        found = set()
        for tree in SEVERAL:
            for classes in all_classes(tree):
                shuffled = [list(some) for some in classes[1:]]
                for some in shuffled:
                    chance.shuffle(some)
                chance.shuffle(shuffled)
                for told in (classes, [[0]] + shuffled):
                    fault = merged_fault(tree, told)
                    self.assertEqual(fault, told_fault(tree, told), (tree, told))
                    found.add(fault)
        self.assertGreater(len(found), 15)

    def test_some_faults(self):
        tree = ("words", 4, 2)
        self.assertEqual(merged_fault(tree, [[0], [1, 2], [3], [4]]), (1, 2, 1, 2))
        self.assertEqual(merged_fault(tree, ((0,), (3,), (2, 1), (4,))), told_fault(tree, [[0], [3], [1, 2], [4]]))
        self.assertIsNone(merged_fault(tree, [[0], [1, 3], [2], [4]]))
        self.assertIsNone(merged_fault(tree, [[0], [4], [3, 1], [2]]))
        # The least kind of a class is looked at first, wherever it stands.
        self.assertEqual(merged_fault(tree, [[0], [2, 1], [3], [4]]), (1, 2, 1, 2))

    def test_great_schemes_with_a_fault(self):
        self.assertEqual(merged_fault(("words", 40, 31), [[0], [1, 2], list(range(3, 41))])[:1], (1,))
        self.assertIs(is_merging(("sets", 80, 40), [[0]] + [[i, 41 - i] for i in range(1, 21)]), False)
        # Sets of half of all: a set and the one of all other members, by halves.
        self.assertIs(is_merging(("sets", 6, 3), [[0], [1, 2], [3]]), True)
        self.assertIs(is_merging(("sets", 80, 40), [[0]] + [[i, 40 - i] for i in range(1, 20)] + [[20], [40]]), True)


class Merged(unittest.TestCase):
    def test_valencies_numbers_and_schemes(self):
        for tree in SEVERAL:
            for classes in all_classes(tree):
                if not is_merging(tree, classes):
                    for call in (lambda: merged_valencies(tree, classes), lambda: merged_numbers(tree, classes, 0),
                                 lambda: merged_scheme(tree, classes)):
                        with self.assertRaises(InvalidQuestion):
                            call()
                elif point_count(tree) <= 24:
                    merged = merged_scheme(tree, classes)
                    self.assertEqual(merged, ("listed", tuple(map(tuple, table_of_classes(tree, classes)))))
                    self.assertTrue(is_scheme(merged))
                    self.assertEqual(merged_valencies(tree, classes), valencies(merged))
                    for which in range(len(classes)):
                        self.assertEqual(merged_numbers(tree, classes, which), numbers_of(merged, which))

    def test_the_order_of_the_classes_is_that_which_is_told(self):
        tree = ("words", 3, 2)
        self.assertEqual(merged_valencies(tree, [[0], [3], [1, 2]]), (1, 1, 6))
        self.assertEqual(merged_valencies(tree, ((0,), (2, 1), (3,))), (1, 6, 1))
        self.assertEqual(merged_scheme(tree, [[0], [3], [2, 1]])[1][0], (0, 2, 2, 2, 2, 2, 2, 1))
        self.assertEqual(merged_numbers(tree, [[0], [3], [1, 2]], 1), ((0, 1, 0), (1, 0, 0), (0, 0, 6)))

    def test_kinds_by_themselves_give_the_scheme_again(self):
        for tree in (samples.PENTAGON, samples.CUBE_OF_KINDS, samples.TRIANGLE_PAIR, samples.ONE_POINT):
            self.assertEqual(merged_scheme(tree, [[kind] for kind in range(kind_count(tree))]), tree)

    def test_how_great_a_listed_scheme_can_be(self):
        by_themselves = [[kind] for kind in range(9)]
        self.assertEqual(len(merged_valencies(NINE_CLASSES, by_themselves)), 9)
        with self.assertRaises(InvalidQuestion):
            merged_scheme(NINE_CLASSES, by_themselves)
        self.assertEqual(kind_count(merged_scheme(samples.CUBE_OF_KINDS, [[kind] for kind in range(8)])), 8)
        # Kinds that the exchange of the two parts takes to one another.
        together = [[0], [1, 3], [2, 6], [4], [5, 7], [8]]
        self.assertEqual(len(merged_scheme(NINE_CLASSES, together)[1]), 16)
        self.assertEqual(len(merged_scheme(FULL, [[0], list(range(1, 16))])[1]), 24)
        in_one = [[0], list(range(1, 24))]
        for tree, classes in ((GREAT, [[0], list(range(1, 16))]), (("words", 1, 25), [[0], [1]]),
                              (("sets", 25, 1), [[0], [1]]), (("words", 23, 2), in_one)):
            self.assertTrue(is_merging(tree, classes))
            with self.subTest(tree), self.assertRaises(InvalidQuestion):
                merged_scheme(tree, classes)
        self.assertEqual(merged_scheme(("words", 1, 24), [[0], [1]]), samples.ROWS_24)

    def test_one_point(self):
        self.assertEqual(merged_valencies(samples.ONE_POINT, [[0]]), (1,))
        self.assertEqual(merged_numbers(samples.ONE_POINT, [[0]], 0), ((1,),))
        self.assertEqual(merged_scheme(samples.ONE_POINT, [[0]]), samples.ONE_POINT)

    def test_great_schemes(self):
        tree = ("words", 20, 1000)
        classes = [[0], list(range(1, 21))]
        self.assertEqual(merged_valencies(tree, classes), (1, 10 ** 60 - 1))
        self.assertEqual(merged_numbers(tree, classes, 1), ((0, 1), (1, 10 ** 60 - 2)))

    def test_a_class_that_there_is_not(self):
        for which in (-1, 2, 3, 10 ** 60):
            with self.assertRaises(InvalidQuestion):
                merged_numbers(("words", 2, 2), [[0], [1, 2]], which)

    def test_tuples_are_returned(self):
        tree, classes = ("words", 3, 2), [[0], [1, 2], [3]]
        self.assertIs(type(merged_valencies(tree, classes)), tuple)
        self.assertEqual({type(row) for row in (merged_numbers(tree, classes, 1), *merged_numbers(tree, classes, 1))},
                         {tuple})
        merged = merged_scheme(tree, classes)
        self.assertEqual({type(row) for row in (merged, merged[1], *merged[1])}, {tuple})


class ListsOfClasses(unittest.TestCase):
    def test_all_that_can_be_put_together(self):
        for tree in SEVERAL + (samples.CUBE_OF_KINDS, ("words", 6, 2), samples.EIGHT_KINDS):
            with self.subTest(tree):
                expected = [classes for classes in all_classes(tree) if is_merging(tree, classes)]
                self.assertEqual(mergings(tree), expected)

    def test_how_they_are_told(self):
        found = mergings(("words", 4, 2))
        self.assertIs(type(found), list)
        self.assertEqual(found, sorted(found))
        for classes in found:
            self.assertIs(type(classes), tuple)
            self.assertEqual(classes[0], (0,))
            self.assertEqual({type(some) for some in classes}, {tuple})
            self.assertEqual(list(classes), sorted(tuple(sorted(some)) for some in classes))

    def test_few_kinds_make_one_list(self):
        self.assertEqual(mergings(samples.ONE_POINT), [((0,),)])
        self.assertEqual(mergings(samples.ONE_POINT, limit=1), [((0,),)])
        self.assertEqual(mergings(("words", 1, 1000), limit=1), [((0,), (1,))])
        for tree in (samples.ONE_POINT, ("sets", 80, 1)):
            with self.assertRaises(TooMany) as caught:
                mergings(tree, limit=0)
            self.assertEqual(caught.exception.limit, 0)

    def test_the_limit_counts_all_lists(self):
        for tree, many in ((("words", 2, 2), 2), (("words", 3, 2), 5), (("words", 4, 2), 15), (("words", 5, 3), 52),
                           (("words", 6, 2), 203), (("words", 7, 2), 877), (("sets", 80, 7), 877),
                           (samples.CUBE_OF_KINDS, 877), (("words", 8, 2), 4140), (("words", 9, 2), 21147)):
            with self.subTest(tree):
                self.assertGreaterEqual(len(mergings(tree, limit=many)), 2)
                with self.assertRaises(TooMany) as caught:
                    mergings(tree, limit=many - 1)
                self.assertEqual(caught.exception.limit, many - 1)

    def test_the_limit_that_is_not_told(self):
        self.assertEqual(len(mergings(("words", 7, 2))), len(mergings(("words", 7, 2), limit=10 ** 6)))
        for tree in (("words", 8, 2), ("words", 40, 31), ("product", ("words", 5, 2), ("words", 9, 2))):
            with self.subTest(tree), self.assertRaises(TooMany) as caught:
                mergings(tree)
            self.assertEqual(caught.exception.limit, 1000)


class Asking(unittest.TestCase):
    WRONG = (
        [], (), [[]], [[0]], [[1], [0, 2, 3]], [[0, 1], [2, 3]], [[1, 2, 3]], [[1, 2, 3], [0]], [[0], [1, 2]],
        [[0], [1, 2, 3, 3]], [[0], [1, 2], [2, 3]], [[0], [1, 2, 3], []], [[0], [], [1, 2, 3]], [[0], [1, 2, 3, 4]],
        [[0], [1, 2, -1]], [[0], [1, 2, 3], [4]], [[0], [0], [1, 2, 3]], [[0, 0], [1, 2, 3]], [[0], [1, 2, 10 ** 60]],
        [[-1], [0, 1, 2, 3]], [[0], [1, 2, 3, 0]],
    )

    def test_what_are_no_classes(self):
        tree = ("words", 3, 2)
        for classes in self.WRONG:
            for call in (merged_fault, is_merging, merged_valencies, merged_scheme,
                         lambda one, other: merged_numbers(one, other, 0), lambda one, other: merged_numbers(one, other, 9)):
                with self.subTest(classes), self.assertRaises(InvalidQuestion):
                    call(tree, classes)

    def test_classes_may_be_lists_or_tuples(self):
        for classes in ([[0], [1, 3], [2]], ((0,), (1, 3), (2,)), [(0,), [3, 1], (2,)], ([0], (3, 1), [2])):
            self.assertIsNone(merged_fault(("words", 3, 2), classes))
            self.assertEqual(merged_valencies(("words", 3, 2), classes), (1, 4, 3))

    def test_arguments_stay_as_they_were(self):
        rows = [[0, 1, 2, 3], [1, 0, 3, 2], [2, 3, 0, 1], [3, 2, 1, 0]]
        tree, classes, faulty = ("listed", rows), [[0], [3, 1], [2]], [[0], [2, 1], [3]]
        chain = ("words", 4, 2), [[0], [3, 1], [4, 2]]
        kept = copy.deepcopy((tree, classes, faulty, chain))
        answers = []
        for _ in range(2):
            answers.append((merged_fault(tree, classes), merged_fault(*chain), merged_fault(tree, faulty),
                            is_merging(tree, classes), merged_valencies(tree, classes), merged_numbers(tree, classes, 1),
                            merged_scheme(tree, classes), mergings(tree)))
            self.assertEqual((tree, classes, faulty, chain), kept)
            mergings(tree).clear()
        self.assertEqual(answers[0], answers[1])


if __name__ == "__main__":
    unittest.main()
