"""The names, arguments and examples of the interface, and what holds for all functions (point 1)."""

import copy
import inspect
import unittest
from importlib import import_module

import schemebound
from schemebound.bounds import bounds_from, greatest_size, linear_bound
from schemebound.classes import merged_fault, mergings
from schemebound.eigenvalues import dual_eigenvalues, eigenvalues, multiplicities
from schemebound.errors import InvalidNotation, InvalidPaper, InvalidQuestion, InvalidScheme, UnknownPoint
from schemebound.greatest import greatest, lot_counts
from schemebound.judging import are_shares, shows_bound, weights_bound
from schemebound.library import Library
from schemebound.lots import dual_shares, least_kind, shares, shares_of_others, strength
from schemebound.notation import format_scheme, parse_scheme
from schemebound.numbers import numbers_of, valencies, ways_for
from schemebound.perfect import ball_size, ball_zeros, can_be_perfect, is_perfect
from schemebound.renaming import kinds_renamed, listed, renamed
from schemebound.schemes import (
    check_point, checked, is_scheme, kind_count, kind_of, kind_table, part_count, point_count, point_of_set,
    point_of_word, set_at, word_at,
)
from schemebound.session import Session
from schemebound.summing import holds_sums, moved, right_angles, spanned
from schemebound.tables import table_fault
from schemebound.texts import check_greatest, check_weights_text, lot_text, parse_weights, weights_text

FUNCTIONS = {
    "schemes": {
        "is_scheme": "(tree)", "checked": "(tree)", "point_count": "(tree)", "kind_count": "(tree)",
        "part_count": "(tree)", "kind_of": "(tree, x, y)", "check_point": "(tree, point)", "kind_table": "(tree)",
        "word_at": "(tree, point)", "set_at": "(tree, point)", "point_of_word": "(tree, word)",
        "point_of_set": "(tree, members)",
    },
    "notation": {"format_scheme": "(tree)", "parse_scheme": "(text)"},
    "numbers": {"valencies": "(tree)", "ways_for": "(tree, i, j, k)", "numbers_of": "(tree, k)"},
    "tables": {"table_fault": "(rows)"},
    "classes": {
        "merged_fault": "(tree, classes)", "is_merging": "(tree, classes)", "merged_valencies": "(tree, classes)",
        "merged_numbers": "(tree, classes, which)", "merged_scheme": "(tree, classes)",
        "mergings": "(tree, *, limit=1000)",
    },
    "eigenvalues": {
        "eigenvalues": "(tree)", "eigenvalue": "(tree, space, kind)", "multiplicities": "(tree)",
        "dual_eigenvalues": "(tree)", "check_eigenvalues": "(tree, rows)", "krein": "(tree, i, j, k)",
    },
    "lots": {
        "pair_counts": "(tree, lot)", "shares": "(tree, lot)", "kinds_in": "(tree, lot)", "dual_shares": "(tree, lot)",
        "silent_spaces": "(tree, lot)", "strength": "(tree, lot)", "least_kind": "(tree, lot)",
        "duals_from": "(tree, size, some)", "shares_from": "(tree, size, duals)", "seen_from": "(tree, lot, point)",
        "is_even": "(tree, lot)", "others_of": "(tree, lot)", "shares_of_others": "(tree, size, some)",
    },
    "summing": {
        "moved": "(tree, lot, point)", "holds_sums": "(tree, lot)", "spanned": "(tree, lot, *, limit=500)",
        "right_angles": "(tree, lot)",
    },
    "names": {"is_name": "(text)"},
    "greatest": {
        "is_allowed": "(tree, kinds, points)", "fitting": "(tree, kinds, points)", "grown": "(tree, kinds, points)",
        "lots": "(tree, kinds, many, *, limit=20000)", "lot_counts": "(tree, kinds, *, limit=200000)",
        "greatest": "(tree, kinds, *, limit=200000)",
    },
    "bounds": {
        "linear_bound": "(tree, allowed)", "greatest_size": "(tree, allowed)", "best_shares": "(tree, allowed)",
        "best_weights": "(tree, allowed)", "bounds_from": "(tree)",
    },
    "library": {"decide": "(asked, tree, numbers)"},
    "commands": {"split_words": "(line)", "is_command": "(words)"},
    "judging": {
        "weights_bound": "(tree, allowed, weights)", "are_shares": "(tree, allowed, shares)",
        "shows_bound": "(tree, allowed, weights, shares)",
    },
    "texts": {
        "lot_text": "(tree, lot)", "parse_lot": "(tree, text)", "weights_text": "(tree, allowed)",
        "parse_weights": "(text)", "check_weights_text": "(tree, allowed, text)",
        "check_greatest": "(tree, allowed, lot, text)",
    },
    "renaming": {
        "listed": "(tree)", "same_kinds": "(one, other)", "renamed": "(tree, names)", "kinds_renamed": "(tree, names)",
        "undone": "(names)",
    },
    "perfect": {
        "ball_size": "(tree, radius)", "ball_divides": "(tree, radius)", "ball_zeros": "(tree, radius)",
        "can_be_perfect": "(tree, radius)", "is_perfect": "(tree, lot, radius)", "reach": "(tree, lot)",
        "loud_spaces": "(tree, lot)",
    },
    "designs": {
        "design_number": "(tree, lot, strength, *, limit=20000)", "is_design": "(tree, lot, strength, *, limit=20000)",
        "are_apart": "(tree, one, other)", "room_beside": "(tree, lot)",
    },
}
CLASSES = {
    "errors": (
        "SchemeboundError", "InvalidScheme", "InvalidLot", "InvalidQuestion", "NothingToUndo", "NothingToRedo",
        "UnknownPoint", "UnknownName", "InvalidNotation", "InvalidPaper", "TooMany", "NameInUse",
    ),
    "library": ("Library",),
    "session": ("Session",),
}
METHODS = {
    Library: {
        "__init__": "(self)", "set_scheme": "(self, name, tree)", "product": "(self, name, one, other)",
        "list_out": "(self, name, one)", "remove_scheme": "(self, name)", "ask": "(self, name, asked, one, numbers)",
        "drop": "(self, name)", "undo": "(self)", "redo": "(self)", "change_all": "(self, changes)",
        "scheme_names": "(self)", "question_names": "(self)", "scheme": "(self, name)", "question": "(self, name)",
        "answer": "(self, name)", "answers": "(self)",
    },
    Session: {"__init__": "(self)", "run": "(self, text)"},
}


class Names(unittest.TestCase):
    def test_functions_are_defined_where_they_are_listed(self):
        for module_name, functions in FUNCTIONS.items():
            module = import_module("schemebound." + module_name)
            for name, arguments in functions.items():
                with self.subTest(name):
                    function = getattr(module, name)
                    self.assertTrue(inspect.isfunction(function))
                    self.assertEqual(function.__module__, module.__name__)
                    self.assertEqual(function.__name__, name)
                    self.assertEqual(str(inspect.signature(function)), arguments)

    def test_classes_are_defined_where_they_are_listed(self):
        for module_name, names in CLASSES.items():
            module = import_module("schemebound." + module_name)
            for name in names:
                with self.subTest(name):
                    self.assertTrue(inspect.isclass(getattr(module, name)))
                    self.assertEqual(getattr(module, name).__module__, module.__name__)

    def test_methods_are_defined_in_the_classes_themselves(self):
        for owner, methods in METHODS.items():
            for name, arguments in methods.items():
                with self.subTest(owner, name=name):
                    self.assertTrue(inspect.isfunction(vars(owner)[name]))
                    self.assertEqual(str(inspect.signature(vars(owner)[name])), arguments)

    def test_attributes_are_set_when_objects_are_created(self):
        library, session = Library(), Session()
        self.assertEqual((library.decided, library.kept), (0, 0))
        self.assertIsInstance(session.library, Library)
        self.assertIsNot(Session().library, session.library)

    def test_the_package_itself_defines_nothing(self):
        with open(schemebound.__file__, encoding="utf-8") as file:
            self.assertEqual(file.read().strip(), "")


class Examples(unittest.TestCase):
    def test_schemes(self):
        tree = ("product", ("sets", 20, 4), ("words", 3, 10))
        self.assertEqual((point_count(tree), kind_count(tree), kind_of(tree, 0, 1012)), (4845000, 20, 6))
        self.assertEqual((set_at(("sets", 5, 2), 4), point_of_set(("sets", 5, 2), [2, 1]),
                          word_at(("words", 3, 10), 47)), ((1, 2), 4, (0, 4, 7)))
        self.assertEqual(kind_table(("listed", [[0, 1], [1, 0]])), ((0, 1), (1, 0)))
        with self.assertRaises(UnknownPoint):
            kind_of(("sets", 4, 2), 0, 6)

    def test_notation(self):
        self.assertEqual(format_scheme(("product", ("words", 2, 3), ("listed", [[0, 1], [1, 0]]))),
                         "scheme\nproduct\nwords 2 3\nlisted 2\nrow 0 1\nrow 1 0")
        self.assertEqual(parse_scheme("scheme\nsets 6 3"), ("sets", 6, 3))
        with self.assertRaises(InvalidNotation):
            parse_scheme("scheme\nproduct\nsets 6 3")
        with self.assertRaises(InvalidScheme):
            parse_scheme("scheme\nlisted 2\nrow 0 1")

    def test_numbers(self):
        self.assertEqual((valencies(("words", 3, 2)), ways_for(("words", 1, 3), 1, 1, 1), numbers_of(("sets", 4, 2), 2)),
                         ((1, 3, 3, 1), 1, ((0, 0, 1), (0, 4, 0), (1, 0, 0))))

    def test_tables(self):
        self.assertEqual((table_fault([[0, 1], [1, 0]]), table_fault([[0, 1, 1], [1, 0, 2], [1, 2, 0]])),
                         (None, ("number", 1, 2, 1, 0)))

    def test_classes(self):
        self.assertEqual((mergings(("words", 3, 2)), merged_fault(("words", 3, 2), [[0], [1, 2], [3]]) is None), (
            [((0,), (1,), (2,), (3,)), ((0,), (1, 2), (3,)), ((0,), (1, 2, 3)), ((0,), (1, 3), (2,))], True))

    def test_eigenvalues(self):
        self.assertEqual((eigenvalues(("words", 2, 3)), multiplicities(("words", 2, 3))),
                         ([(1, 4, 4), (1, 1, -2), (1, -2, 1)], (1, 4, 4)))
        self.assertEqual((eigenvalues(("sets", 4, 2)), multiplicities(("sets", 4, 2))),
                         ([(1, 4, 1), (1, 0, -1), (1, -2, 1)], (1, 3, 2)))
        self.assertEqual(dual_eigenvalues(("sets", 4, 2)), [
            ((1, 1), (3, 1), (2, 1)), ((1, 1), (0, 1), (-1, 1)), ((1, 1), (-3, 1), (2, 1))])

    def test_lots(self):
        tree, lot = ("words", 3, 2), [0, 3, 5, 6]
        self.assertEqual((shares(tree, lot), dual_shares(tree, lot), strength(tree, lot), least_kind(tree, lot)),
                         (((1, 1), (0, 1), (3, 1), (0, 1)), ((1, 1), (0, 1), (0, 1), (1, 1)), 2, 2))
        self.assertEqual(shares_of_others(tree, 1, [(1, 1), (0, 1), (0, 1), (0, 1)]),
                         ((1, 1), (18, 7), (18, 7), (6, 7)))

    def test_summing(self):
        tree = ("words", 3, 2)
        self.assertEqual((spanned(tree, [3, 5]), right_angles(tree, [3, 5]), moved(tree, [0, 3], 1),
                          holds_sums(tree, [0, 3])), ((0, 3, 5, 6), (0, 7), (1, 2), True))

    def test_greatest(self):
        self.assertEqual((greatest(("words", 3, 2), [2, 3]), lot_counts(("sets", 4, 2), [1])),
                         ([0, 3, 5, 6], [1, 6, 12, 8]))

    def test_bounds(self):
        self.assertEqual((linear_bound(("words", 2, 3), [2]), bounds_from(("words", 2, 2)),
                          greatest_size(("words", 3, 2), (2,))), ((3, 1), [(4, 1), (2, 1)], 4))

    def test_session(self):
        session = Session()
        self.assertEqual(
            session.run("scheme w\nwords 3 2\nend\nask g greatest w 2 3\nask b bound w 2 3\nask k kind w 0 7\nanswers"),
            ["ok", "ok", "ok", "ok", "ok", "b: bound 4 1", "g: greatest 4", "k: kind 3"])

    def test_judging(self):
        tree = ("words", 2, 2)
        self.assertEqual((weights_bound(tree, [2], [(1, 1), (0, 1), (2, 2)]),
                          weights_bound(tree, [2], [(1, 1), (1, 1), (0, 1)])), (None, (3, 1)))
        self.assertEqual((are_shares(tree, [2], [(1, 1), (0, 1), (1, 1)]),
                          are_shares(tree, [2], [(1, 1), (1, 1), (0, 1)])), (True, False))
        self.assertIs(shows_bound(tree, [2], [(1, 1), (1, 2), (0, 1)], [(1, 1), (0, 1), (1, 1)]), True)

    def test_texts(self):
        self.assertEqual(lot_text(("words", 3, 2), [7, 0]), "lot\npoint 7\npoint 0")
        self.assertEqual(weights_text(("words", 1, 2), []), "bound 1 1\nweight 1 1\nweight 0 1")
        tree = ("words", 2, 2)
        self.assertEqual(
            (check_weights_text(tree, [2], "bound 4 2\nweight 1 1\nweight 1 2\nweight 0 1"),
             check_greatest(tree, [2], [0, 3], "bound 2 1\nweight 1 1\nweight 1 2\nweight 0 1")), (True, True))
        with self.assertRaises(InvalidPaper):
            parse_weights("bound 1 0")

    def test_renaming(self):
        tree = ("words", 2, 2)
        self.assertEqual(listed(tree), ("listed", ((0, 1, 1, 2), (1, 0, 2, 1), (1, 2, 0, 1), (2, 1, 1, 0))))
        self.assertEqual((renamed(tree, [1, 0, 2, 3])[1][0], kinds_renamed(tree, [0, 2, 1])[1][0]),
                         ((0, 1, 2, 1), (0, 2, 2, 1)))
        with self.assertRaises(InvalidQuestion):
            renamed(("words", 5, 2), [])

    def test_perfect(self):
        tree = ("words", 7, 2)
        self.assertEqual((ball_size(tree, 1), ball_zeros(tree, 1), can_be_perfect(tree, 1)), (8, [4], True))
        self.assertIs(is_perfect(("words", 3, 2), [0, 7], 1), True)
        self.assertEqual((ball_size(("words", 23, 2), 3), can_be_perfect(("words", 23, 2), 3),
                          can_be_perfect(("words", 6, 2), 1)), (2048, True, False))


class Arguments(unittest.TestCase):
    def test_arguments_stay_as_they_were(self):
        rows = [[0, 1, 2, 2], [1, 0, 2, 2], [2, 2, 0, 1], [2, 2, 1, 0]]
        listed = ("listed", rows)
        faulty = ("listed", [[0, 1, 1], [1, 0, 2], [1, 2, 0]])
        product = ("product", listed, ("product", listed, ("words", 1, 2)))
        word, members = [2, 0, 1], [3, 1, 2]
        kept = copy.deepcopy((listed, faulty, product, word, members))
        for tree in (listed, product):
            is_scheme(tree)
            checked(tree)
            point_count(tree)
            kind_count(tree)
            part_count(tree)
            kind_of(tree, 1, 3)
            check_point(tree, 3)
            kind_table(tree)
            format_scheme(tree)
            valencies(tree)
            ways_for(tree, 1, 2, 2)
            numbers_of(tree, 2)
        is_scheme(faulty)
        is_scheme(("product", faulty, listed))
        point_of_word(("words", 3, 3), word)
        point_of_set(("sets", 6, 3), members)
        self.assertEqual((listed, faulty, product, word, members), kept)

    def test_nothing_that_is_returned_hangs_on_the_argument(self):
        rows = [[0, 1], [1, 0]]
        tree = ("product", ("listed", rows), ("words", 1, 2))
        found = (checked(tree), kind_table(("listed", rows)), valencies(tree), numbers_of(tree, 1))
        kept = copy.deepcopy(found)
        rows[0][0] = rows[1][1] = 5
        rows.pop()
        self.assertEqual(found, kept)

    def test_the_same_call_answers_the_same(self):
        tree = ("product", ("listed", [[0, 1], [1, 0]]), ("sets", 4, 2))
        self.assertEqual(numbers_of(tree, 3), numbers_of(tree, 3))
        self.assertEqual(format_scheme(tree), format_scheme(tree))
        self.assertFalse(is_scheme(("listed", [[0, 1], [1, 1]])))
        self.assertTrue(is_scheme(tree))


if __name__ == "__main__":
    unittest.main()
