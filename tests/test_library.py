"""Libraries: changes, undo and redo, and the answers of questions (points 59 to 63)."""

import copy
import random
import unittest
from unittest import mock

from schemebound import library as module
from schemebound.bounds import linear_bound
from schemebound.errors import (
    InvalidQuestion, InvalidScheme, NameInUse, NothingToRedo, NothingToUndo, SchemeboundError, TooMany, UnknownName,
)
from schemebound.greatest import greatest, lot_counts
from schemebound.library import Library, decide
from schemebound.schemes import checked, kind_of, kind_table, point_count

import samples

CUBE = ("words", 3, 2)
# The search for the greatest lots of these goes through more than 20000 of them.
MANY = (("product", ("sets", 5, 2), ("words", 1, 10)), [1, 3, 4, 5])
NO_SCHEMES = (("words", 0, 2), ("sets", 3, 2), ("listed", [[0, 1], [1, 1]]), ("product", CUBE, ("words", 41, 2)), ())
NO_QUESTIONS = (
    ("point", []), ("", []), ("Points", []), ("points", [0]), ("points", [0, 1]), ("kind", []), ("kind", [0]),
    ("kind", [0, 1, 2]), ("greatest", [1] * 7), ("bound", [1, 2, 3, 4, 5, 6, 7]), ("lots", [1]), ("points ", []),
)


def filled():
    """A library with some schemes and questions."""
    library = Library()
    library.set_scheme("cube", CUBE)
    library.set_scheme("pair", samples.PAIR)
    library.product("both", "cube", "pair")
    library.ask("q", "points", "both", [])
    library.ask("cube", "kind", "cube", [0, 7])
    library.ask("b", "bound", "cube", [2, 3])
    return library


def shown(library):
    """All that a library tells of its schemes and questions."""
    return ([(name, library.scheme(name)) for name in library.scheme_names()],
            [(name, library.question(name)) for name in library.question_names()])


def way_back_and_forth(library):
    """What a library shows after each undo, and after each redo from there on; it is left as it was."""
    found = []
    steps = 0
    while True:
        try:
            library.undo()
        except NothingToUndo:
            break
        steps += 1
        found.append(shown(library))
    for _ in range(steps):
        library.redo()
    ahead = 0
    while True:
        try:
            library.redo()
        except NothingToRedo:
            break
        ahead += 1
        found.append(shown(library))
    for _ in range(ahead):
        library.undo()
    return found


class Decide(unittest.TestCase):
    def test_points(self):
        for tree in samples.SMALL + samples.MANY_POINTS:
            self.assertEqual(decide("points", tree, []), ("points", point_count(tree)))

    def test_kinds(self):
        chance = random.Random(1)
        for tree in samples.SMALL + samples.MANY_POINTS:
            many = point_count(tree)
            for _ in range(3):
                x, y = chance.randrange(many), chance.randrange(many)
                self.assertEqual(decide("kind", tree, [x, y]), ("kind", kind_of(tree, x, y)))
            for x, y, point in ((many, 0, many), (0, many, many), (-1, many, -1), (many, -1, many), (many - 1, -7, -7),
                                (10 ** 61, 10 ** 62, 10 ** 61)):
                self.assertEqual(decide("kind", tree, [x, y]), ("unknown", point))

    def test_greatest_lots(self):
        chance = random.Random(2)
        for tree in samples.SMALL:
            kinds = range(1, samples.kinds_told(tree))
            for _ in range(3):
                asked = chance.choices(kinds, k=chance.randrange(7)) if kinds else []
                answer = decide("greatest", tree, asked)
                try:
                    size = len(lot_counts(tree, asked, limit=20000)) - 1
                except TooMany:
                    size = len(greatest(tree, asked, limit=20000))
                self.assertEqual(answer, ("greatest", size))

    def test_greatest_at_its_limit(self):
        tree, kinds = MANY
        with self.assertRaises(TooMany):
            greatest(tree, kinds, limit=20000)
        self.assertEqual(decide("greatest", tree, kinds), ("many", 20000))
        limits = []

        def seen(tree, kinds, *, limit=200000):
            limits.append(limit)
            return greatest(tree, kinds, limit=limit)

        with mock.patch.object(module, "greatest", seen):
            self.assertEqual(decide("greatest", CUBE, [2, 3]), ("greatest", 4))
        self.assertEqual(limits, [20000])

    def test_greatest_is_refused(self):
        for tree, kinds in ((("words", 7, 2), [1]), (("words", 1, 101), []), (("words", 20, 1000), [0]), (CUBE, [0]),
                            (CUBE, [4]), (CUBE, [1, 2, -1]), (samples.ONE_POINT, [1]), (CUBE, [10 ** 60])):
            self.assertEqual(decide("greatest", tree, kinds), ("refused",))
        self.assertEqual(decide("greatest", ("words", 1, 100), [1, 1]), ("greatest", 100))
        # Eigenvalues that are no integers are no hindrance here.
        self.assertEqual(decide("greatest", samples.PENTAGON, [1]), ("greatest", 2))

    def test_bounds(self):
        for tree, kinds in ((CUBE, [2, 3]), (("words", 4, 2), [3, 4]), (("words", 20, 1000), []), (("sets", 5, 2), [2]),
                            (("words", 20, 1000), [20, 19, 18]), (("words", 29, 2), [1, 2, 3, 4, 5, 6])):
            top, bottom = linear_bound(tree, kinds)
            self.assertEqual(decide("bound", tree, kinds), ("bound", top, bottom))
        self.assertEqual(decide("bound", ("words", 4, 2), [4, 3]), ("bound", 8, 3))

    def test_bound_is_refused(self):
        for tree, kinds in ((("words", 30, 2), []), (samples.PENTAGON, [1]), (CUBE, [0]), (CUBE, [4]), (CUBE, [1, 1]),
                            (("product", samples.PENTAGON, CUBE), []), (CUBE, [-1])):
            self.assertEqual(decide("bound", tree, kinds), ("refused",))

    def test_no_number_to_six(self):
        for many in range(9):
            for asked in ("greatest", "bound"):
                if many <= 6:
                    kinds = list(range(1, many + 1))
                    self.assertEqual(decide(asked, ("words", 6, 2), kinds)[0], asked)
                else:
                    with self.assertRaises(InvalidQuestion):
                        decide(asked, ("words", 6, 2), list(range(1, many + 1)))

    def test_what_is_no_question(self):
        for asked, numbers in NO_QUESTIONS:
            with self.subTest(asked), self.assertRaises(InvalidQuestion):
                decide(asked, CUBE, numbers)

    def test_what_is_no_scheme_ahead_of_all(self):
        for tree in NO_SCHEMES:
            for asked, numbers in NO_QUESTIONS + (("points", []), ("kind", [0, 1]), ("greatest", []), ("bound", [1])):
                with self.subTest(tree), self.assertRaises(InvalidScheme):
                    decide(asked, tree, numbers)

    def test_tuples_are_returned_and_arguments_stay_as_they_were(self):
        tree = ("listed", [[0, 1], [1, 0]])
        for asked, numbers in (("points", []), ("kind", [1, 0]), ("kind", [5, 0]), ("greatest", [1, 1]), ("bound", [1])):
            kept = copy.deepcopy((tree, numbers))
            self.assertIs(type(decide(asked, tree, numbers)), tuple)
            self.assertEqual((tree, numbers), kept)


class Changes(unittest.TestCase):
    def test_an_empty_library(self):
        library = Library()
        self.assertEqual((library.decided, library.kept), (0, 0))
        self.assertEqual((library.scheme_names(), library.question_names(), library.answers()), ([], [], []))

    def test_schemes(self):
        library = Library()
        self.assertIsNone(library.set_scheme("b", ("listed", [[0, 1], [1, 0]])))
        self.assertIsNone(library.set_scheme("a", CUBE))
        self.assertEqual(library.scheme_names(), ["a", "b"])
        self.assertEqual((library.scheme("a"), library.scheme("b")), (CUBE, samples.PAIR))
        self.assertIsNone(library.set_scheme("a", ("sets", 4, 2)))
        self.assertEqual((library.scheme_names(), library.scheme("a")), (["a", "b"], ("sets", 4, 2)))
        self.assertIsNone(library.remove_scheme("b"))
        self.assertEqual(library.scheme_names(), ["a"])

    def test_products_in_their_order(self):
        library = filled()
        self.assertEqual(library.scheme("both"), ("product", CUBE, samples.PAIR))
        self.assertIsNone(library.product("turned", "pair", "cube"))
        self.assertEqual(library.scheme("turned"), ("product", samples.PAIR, CUBE))
        library.product("self", "pair", "pair")
        self.assertEqual(library.scheme("self"), ("product", samples.PAIR, samples.PAIR))
        # Under a name that is there already, also that of a part.
        library.product("pair", "pair", "pair")
        library.product("pair", "pair", "cube")
        self.assertEqual(library.scheme("pair"), ("product", ("product", samples.PAIR, samples.PAIR), CUBE))
        # What was made of the scheme before it was set anew stays.
        self.assertEqual(library.scheme("both"), ("product", CUBE, samples.PAIR))

    def test_schemes_listed(self):
        library = filled()
        self.assertIsNone(library.list_out("table", "both"))
        self.assertEqual(library.scheme("table"), ("listed", kind_table(("product", CUBE, samples.PAIR))))
        library.list_out("cube", "cube")
        self.assertEqual(library.scheme("cube"), ("listed", kind_table(CUBE)))
        library.list_out("pair", "pair")
        self.assertEqual(library.scheme("pair"), samples.PAIR)
        for tree in (("words", 1, 24), ("sets", 7, 1), samples.EIGHT_KINDS, ("words", 4, 2)):
            library.set_scheme("x", tree)
            library.list_out("y", "x")
            self.assertEqual(library.scheme("y"), ("listed", kind_table(tree)))

    def test_errors_of_setting(self):
        library = filled()
        before = shown(library)
        for tree in NO_SCHEMES:
            for name in ("cube", "new"):
                with self.subTest(tree), self.assertRaises(InvalidScheme):
                    library.set_scheme(name, tree)
        self.assertEqual(shown(library), before)

    def test_errors_of_products(self):
        library = filled()
        library.set_scheme("great", ("words", 20, 1000))
        library.set_scheme("kinds", ("words", 30, 2))
        library.set_scheme("parts", samples.chain([samples.ONE_POINT] * 4))
        before = shown(library)
        for one, other, name in (("x", "y", "x"), ("y", "x", "y"), ("cube", "y", "y"), ("x", "cube", "x"), ("x", "x", "x"),
                                 ("", "cube", ""), ("q", "cube", "q")):
            with self.assertRaises(UnknownName) as caught:
                library.product("cube", one, other)
            self.assertEqual(caught.exception.name, name)
        for one, other in (("great", "cube"), ("cube", "great"), ("great", "great"), ("kinds", "cube"), ("parts", "cube"),
                           ("cube", "parts"), ("kinds", "pair")):
            with self.subTest(one), self.assertRaises(InvalidScheme):
                library.product("new", one, other)
        self.assertEqual(shown(library), before)

    def test_errors_of_listing(self):
        library = filled()
        for name, tree in (("p101", ("words", 1, 101)), ("many", ("words", 20, 1000)), ("p100", ("words", 1, 100)),
                           ("p25", ("words", 1, 25)), ("kinds", ("product", samples.CUBE_OF_KINDS, samples.PAIR))):
            library.set_scheme(name, tree)
        before = shown(library)
        for name in ("x", "", "q"):
            with self.assertRaises(UnknownName) as caught:
                library.list_out("new", name)
            self.assertEqual(caught.exception.name, name)
        for name, error in (("p101", InvalidQuestion), ("many", InvalidQuestion), ("p100", InvalidScheme),
                            ("p25", InvalidScheme), ("kinds", InvalidScheme)):
            with self.subTest(name), self.assertRaises(error):
                library.list_out("new", name)
        self.assertEqual(shown(library), before)

    def test_removing(self):
        library = filled()
        before = shown(library)
        for name in ("x", "", "q", "b"):
            with self.assertRaises(UnknownName) as caught:
                library.remove_scheme(name)
            self.assertEqual(caught.exception.name, name)
        for name in ("both", "cube"):
            with self.assertRaises(NameInUse) as caught:
                library.remove_scheme(name)
            self.assertEqual(caught.exception.name, name)
        self.assertEqual(shown(library), before)
        # The parts of a scheme that a question is about are free, and so is a scheme with the name of a question.
        library.remove_scheme("pair")
        library.set_scheme("q", CUBE)
        library.remove_scheme("q")
        library.drop("cube")
        with self.assertRaises(NameInUse):
            library.remove_scheme("cube")
        library.drop("b")
        library.remove_scheme("cube")
        self.assertEqual((library.scheme_names(), library.question_names()), (["both"], ["q"]))

    def test_questions(self):
        library = filled()
        self.assertEqual(library.question("cube"), ("kind", "cube", (0, 7)))
        self.assertEqual(library.question("q"), ("points", "both", ()))
        self.assertIsNone(library.ask("q", "greatest", "pair", [1, 1]))
        self.assertEqual(library.question("q"), ("greatest", "pair", (1, 1)))
        self.assertEqual(library.question_names(), ["b", "cube", "q"])
        # The scheme of a question that is replaced is free then.
        library.remove_scheme("both")
        self.assertIsNone(library.drop("q"))
        self.assertEqual(library.question_names(), ["b", "cube"])

    def test_what_a_question_asks_is_not_looked_at(self):
        library = filled()
        library.ask("k", "kind", "cube", [99, -1])
        library.ask("g", "greatest", "cube", [0, 77])
        library.ask("b", "bound", "cube", [5, 5])
        self.assertEqual((library.answer("k"), library.answer("g"), library.answer("b")),
                         (("unknown", 99), ("refused",), ("refused",)))

    def test_errors_of_asking(self):
        library = filled()
        before = shown(library)
        for asked, numbers in NO_QUESTIONS:
            with self.assertRaises(UnknownName) as caught:
                library.ask("q", asked, "x", numbers)
            self.assertEqual(caught.exception.name, "x")
            for name in ("q", "new"):
                with self.subTest(asked), self.assertRaises(InvalidQuestion):
                    library.ask(name, asked, "cube", numbers)
        with self.assertRaises(UnknownName):
            library.ask("q", "points", "b", [])
        self.assertEqual(shown(library), before)

    def test_names_that_are_not_there(self):
        library = filled()
        for call in (library.drop, library.question, library.answer, library.scheme):
            for name in ("x", "", "nothing at all"):
                with self.assertRaises(UnknownName) as caught:
                    call(name)
                self.assertEqual(caught.exception.name, name)
        for call in (library.drop, library.question, library.answer):
            with self.assertRaises(UnknownName):
                call("both")
        with self.assertRaises(UnknownName):
            library.scheme("q")

    def test_one_name_for_a_scheme_and_for_a_question(self):
        library = filled()
        self.assertEqual((library.scheme("cube"), library.question("cube")), (CUBE, ("kind", "cube", (0, 7))))
        library.drop("cube")
        self.assertEqual(library.scheme("cube"), CUBE)
        library.ask("pair", "points", "cube", [])
        library.remove_scheme("pair")
        self.assertEqual(library.question("pair"), ("points", "cube", ()))

    def test_the_form_of_names_is_not_looked_at(self):
        library = Library()
        for name in ("", "A name", "0", "abcdefghijklmnop", "\u00e9\n", "a b"):
            library.set_scheme(name, CUBE)
            library.ask(name, "points", name, [])
            self.assertEqual(library.answer(name), ("points", 8))

    def test_names_in_ascending_order(self):
        library = Library()
        for name in ("b", "a10", "a", "a2", "Z", "z", "ab", ""):
            library.set_scheme(name, CUBE)
            library.ask(name, "points", name, [])
        expected = ["", "Z", "a", "a10", "a2", "ab", "b", "z"]
        self.assertEqual((library.scheme_names(), library.question_names()), (expected, expected))
        self.assertEqual(library.answers(), [(name, ("points", 8)) for name in expected])

    def test_lists_that_are_passed_are_copied(self):
        library = Library()
        rows, numbers = [[0, 1], [1, 0]], [1]
        inner = ("listed", rows)
        library.set_scheme("a", inner)
        library.set_scheme("p", ("product", inner, CUBE))
        library.ask("q", "bound", "a", numbers)
        changes = [("set_scheme", "c", inner), ("ask", "r", "bound", "c", numbers)]
        kept = copy.deepcopy((rows, numbers, changes))
        library.change_all(changes)
        self.assertEqual((rows, numbers, changes), kept)
        rows[0][1] = 9
        rows.append([7])
        numbers.append(8)
        changes.clear()
        self.assertEqual((library.scheme("a"), library.scheme("c")), (samples.PAIR, samples.PAIR))
        self.assertEqual(library.scheme("p"), ("product", samples.PAIR, CUBE))
        self.assertEqual((library.question("q"), library.question("r")), (("bound", "a", (1,)), ("bound", "c", (1,))))
        self.assertEqual(library.answers(), [("q", ("bound", 2, 1)), ("r", ("bound", 2, 1))])
        library.undo()
        library.undo()
        library.redo()
        self.assertEqual(library.scheme("c"), samples.PAIR)

    def test_answers_that_are_changed_change_no_later_ones(self):
        library = filled()
        first = (library.scheme_names(), library.question_names(), library.answers())
        kept = copy.deepcopy(first)
        for found in first:
            found.reverse()
            found.append("x")
        self.assertEqual((library.scheme_names(), library.question_names(), library.answers()), kept)
        self.assertEqual({type(found) for found in first}, {list})
        self.assertEqual({type(found) for found in kept[2]}, {tuple})
        self.assertEqual([type(library.question("q")), type(library.question("q")[2]), type(library.answer("q"))], [tuple] * 3)


class UndoAndRedo(unittest.TestCase):
    def test_nothing_to_undo_and_nothing_to_redo(self):
        library = Library()
        for _ in range(2):
            with self.assertRaises(NothingToUndo):
                library.undo()
            with self.assertRaises(NothingToRedo):
                library.redo()
        library.set_scheme("a", CUBE)
        with self.assertRaises(NothingToRedo):
            library.redo()
        self.assertEqual(library.scheme_names(), ["a"])
        self.assertIsNone(library.undo())
        with self.assertRaises(NothingToUndo):
            library.undo()
        self.assertEqual(library.scheme_names(), [])
        self.assertIsNone(library.redo())
        with self.assertRaises(NothingToRedo):
            library.redo()
        self.assertEqual(library.scheme_names(), ["a"])

    def test_each_change_is_taken_back_and_made_again(self):
        library = filled()
        states = [shown(library)]
        for change in (
                lambda: library.set_scheme("new", ("sets", 4, 2)), lambda: library.set_scheme("cube", ("words", 4, 2)),
                lambda: library.product("pair", "pair", "cube"), lambda: library.product("n2", "new", "new"),
                lambda: library.list_out("cube", "cube"), lambda: library.list_out("n3", "new"),
                lambda: library.ask("q", "bound", "cube", [1, 2]), lambda: library.ask("z", "points", "new", []),
                lambda: library.drop("cube"), lambda: library.remove_scheme("both"), lambda: library.remove_scheme("n3"),
                lambda: library.set_scheme("pair", library.scheme("pair"))):
            change()
            states.append(shown(library))
        for state in states[-2::-1]:
            library.undo()
            self.assertEqual(shown(library), state)
        for state in states[1:]:
            library.redo()
            self.assertEqual(shown(library), state)
        for _ in range(12 + 6):
            library.undo()
        self.assertEqual(shown(library), ([], []))
        with self.assertRaises(NothingToUndo):
            library.undo()

    def test_a_change_bars_redo(self):
        for change in (lambda library: library.set_scheme("cube", CUBE), lambda library: library.product("p", "cube", "cube"),
                       lambda library: library.list_out("p", "cube"), lambda library: library.remove_scheme("pair"),
                       lambda library: library.ask("q", "points", "cube", []), lambda library: library.drop("b"),
                       lambda library: library.change_all([("drop", "b")])):
            library = filled()
            library.ask("c", "points", "cube", [])
            library.undo()
            change(library)
            with self.assertRaises(NothingToRedo):
                library.redo()
            library.undo()
            library.redo()

    def test_a_change_that_raised_an_error_is_none(self):
        library = filled()
        library.ask("c", "points", "cube", [])
        library.undo()
        expected = way_back_and_forth(library)
        for change in (
                lambda: library.set_scheme("cube", ("words", 0, 2)), lambda: library.product("p", "cube", "x"),
                lambda: library.list_out("p", "x"), lambda: library.remove_scheme("cube"), lambda: library.drop("x"),
                lambda: library.remove_scheme("x"), lambda: library.ask("q", "points", "x", []),
                lambda: library.ask("q", "points", "cube", [1]), lambda: library.answer("x")):
            with self.assertRaises(SchemeboundError):
                change()
            self.assertEqual(way_back_and_forth(library), expected)
        library.redo()
        self.assertEqual(library.question("c"), ("points", "cube", ()))
        library.undo()
        library.undo()
        self.assertEqual(library.question_names(), ["cube", "q"])

    def test_answers_are_no_changes(self):
        library = filled()
        library.drop("b")
        library.undo()
        library.answers()
        library.answer("q")
        library.redo()
        self.assertEqual(library.question_names(), ["cube", "q"])


class SeveralChanges(unittest.TestCase):
    def test_each_is_a_change_of_its_own(self):
        library = Library()
        changes = [
            ("set_scheme", "a", CUBE), ("product", "b", "a", "a"), ("list_out", "c", "a"), ("ask", "q", "kind", "b", [0, 9]),
            ("ask", "r", "points", "c", []), ("drop", "q"), ("remove_scheme", "b"), ("set_scheme", "a", samples.PAIR),
        ]
        self.assertIsNone(library.change_all(changes))
        other = Library()
        other.set_scheme("a", CUBE)
        other.product("b", "a", "a")
        other.list_out("c", "a")
        other.ask("q", "kind", "b", [0, 9])
        other.ask("r", "points", "c", [])
        other.drop("q")
        other.remove_scheme("b")
        other.set_scheme("a", samples.PAIR)
        self.assertEqual(shown(library), shown(other))
        self.assertEqual(way_back_and_forth(library), way_back_and_forth(other))
        self.assertEqual(len(way_back_and_forth(library)), 8)

    def test_no_change(self):
        library = filled()
        library.undo()
        expected = (shown(library), way_back_and_forth(library))
        self.assertIsNone(library.change_all([]))
        self.assertEqual((shown(library), way_back_and_forth(library)), expected)
        library.redo()
        self.assertEqual(library.question_names(), ["b", "cube", "q"])
        empty = Library()
        empty.change_all([])
        with self.assertRaises(NothingToUndo):
            empty.undo()

    def test_an_error_at_each_place(self):
        good = [("set_scheme", "x", CUBE), ("ask", "q", "bound", "x", [1]), ("drop", "b"), ("product", "cube", "x", "x")]
        wrong = (
            (("set_scheme", "y", ("words", 0, 2)), InvalidScheme), (("drop", "nothing"), UnknownName),
            (("remove_scheme", "cube"), NameInUse), (("remove_scheme", "w"), UnknownName),
            (("ask", "q", "points", "cube", [0]), InvalidQuestion), (("ask", "q", "points", "w", [0]), UnknownName),
            (("product", "p", "w", "v"), UnknownName), (("list_out", "p", "great"), InvalidQuestion),
            (("product", "p", "great", "great"), InvalidScheme), (("list_out", "p", "w"), UnknownName),
        )
        for at in range(len(good) + 1):
            for change, error in wrong:
                library = filled()
                library.set_scheme("great", ("words", 20, 1000))
                library.set_scheme("z", CUBE)
                library.drop("q")
                library.undo()
                library.undo()
                expected = (shown(library), way_back_and_forth(library))
                with self.subTest(change, at=at):
                    with self.assertRaises(error):
                        library.change_all(good[:at] + [change] + good[at:])
                    self.assertEqual((shown(library), way_back_and_forth(library)), expected)
                    library.redo()
                    library.redo()
                    self.assertEqual(library.question_names(), ["b", "cube"])
                    with self.assertRaises(NothingToRedo):
                        library.redo()

    def test_the_first_error_is_raised(self):
        library = filled()
        with self.assertRaises(UnknownName) as caught:
            library.change_all([("drop", "b"), ("drop", "b"), ("drop", "c"), ("set_scheme", "a", ())])
        self.assertEqual(caught.exception.name, "b")
        self.assertEqual(library.question_names(), ["b", "cube", "q"])
        # A later change can rest on an earlier one of the same call.
        library.change_all([("drop", "b"), ("drop", "cube"), ("remove_scheme", "cube"), ("set_scheme", "cube", samples.PAIR)])
        self.assertEqual(library.scheme("cube"), samples.PAIR)

    def test_in_an_empty_library(self):
        library = Library()
        with self.assertRaises(UnknownName):
            library.change_all([("set_scheme", "a", CUBE), ("drop", "q")])
        self.assertEqual(shown(library), ([], []))
        for call, error in ((library.undo, NothingToUndo), (library.redo, NothingToRedo)):
            with self.assertRaises(error):
                call()


class Model:
    """A library by the words of the document: each state is kept whole."""

    def __init__(self):
        self.states = [({}, {})]
        self.now = 0
        self.known = {}
        self.decided = self.kept = 0

    def state(self):
        """The schemes and the questions."""
        return self.states[self.now]

    def change(self, state):
        """Make a change that leads to a state."""
        self.states = self.states[:self.now + 1] + [state]
        self.now += 1

    def after(self, state, told):
        """The state behind a change, or the name of the error that it raises."""
        schemes, questions = dict(state[0]), dict(state[1])
        which, name, *rest = told
        if which == "set_scheme":
            schemes[name] = rest[0]
        elif which in ("product", "list_out"):
            for one in rest:
                if one not in schemes:
                    return "UnknownName"
            if which == "list_out" and point_count(schemes[rest[0]]) > 100:
                return "InvalidQuestion"
            tree = ("product", schemes[rest[0]], schemes[rest[1]]) if which == "product" else \
                ("listed", kind_table(schemes[rest[0]]))
            try:
                schemes[name] = checked(tree)
            except InvalidScheme:
                return "InvalidScheme"
        elif which == "remove_scheme":
            if name not in schemes:
                return "UnknownName"
            if name in [one for _, one, _ in questions.values()]:
                return "NameInUse"
            del schemes[name]
        elif which == "ask":
            asked, one, numbers = rest
            if one not in schemes:
                return "UnknownName"
            if len(numbers) not in {"points": [0], "kind": [2]}.get(asked, range(7)):
                return "InvalidQuestion"
            questions[name] = (asked, one, tuple(numbers))
        else:
            if name not in questions:
                return "UnknownName"
            del questions[name]
        return schemes, questions

    def answer(self, name):
        """The answer of a question that is there."""
        asked, one, numbers = self.state()[1][name]
        key = (asked, self.state()[0][one], numbers)
        if key in self.known:
            self.kept += 1
        else:
            self.decided += 1
            self.known[key] = decide(asked, key[1], list(numbers))
        return self.known[key]


class AtRandom(unittest.TestCase):
    NAMES = ("a", "b", "c", "d", "e")
    TREES = (CUBE, samples.PAIR, samples.PENTAGON, ("words", 2, 11), ("sets", 4, 2), ("words", 1, 100))

    def some_change(self, chance):
        """A change at random, which may be one that raises an error."""
        which = chance.choice(("set_scheme", "product", "list_out", "remove_scheme", "ask", "ask", "drop"))
        names = [chance.choice(self.NAMES) for _ in range(3)]
        if which == "set_scheme":
            return (which, names[0], chance.choice(self.TREES))
        if which == "ask":
            asked = chance.choice(("points", "kind", "greatest", "bound"))
            numbers = [chance.randrange(4) for _ in range(chance.choice({"points": (0, 1), "kind": (2, 2, 1)}.get(asked, (0, 1, 2, 7))))]
            return (which, names[0], asked, names[1], numbers)
        return (which, *names[:{"product": 3, "list_out": 2}.get(which, 1)])

    def make(self, library, told):
        """Make a change straight by its method; returns the name of the error that it raises, or None."""
        try:
            getattr(library, told[0])(*told[1:])
        except SchemeboundError as error:
            return error.__class__.__name__
        return None

    def step(self, chance, library, model):
        """One step of both."""
        action = chance.random()
        if action < 0.5:
            told = self.some_change(chance)
            after = model.after(model.state(), told)
            self.assertEqual(self.make(library, told), after if isinstance(after, str) else None, told)
            if not isinstance(after, str):
                model.change(after)
        elif action < 0.65:
            self.assertEqual(self.make(library, ("undo",)), None if model.now else "NothingToUndo")
            model.now = max(model.now - 1, 0)
        elif action < 0.75:
            last = model.now + 1 == len(model.states)
            self.assertEqual(self.make(library, ("redo",)), "NothingToRedo" if last else None)
            model.now += not last
        elif action < 0.85:
            changes = [self.some_change(chance) for _ in range(chance.randrange(4))]
            states = [model.state()]
            for told in changes:
                if not isinstance(states[-1], str):
                    states.append(model.after(states[-1], told))
            failed = states[-1] if isinstance(states[-1], str) else None
            self.assertEqual(self.make(library, ("change_all", changes)), failed)
            if failed is None:
                for state in states[1:]:
                    model.change(state)
        elif model.state()[1]:
            name = chance.choice(sorted(model.state()[1]))
            self.assertEqual(library.answer(name), model.answer(name))

    def test_against_whole_states(self):
        chance = random.Random(63)
        for _ in range(30):
            library, model = Library(), Model()
            for _ in range(100):
                self.step(chance, library, model)
                schemes, questions = model.state()
                self.assertEqual(shown(library), (sorted(schemes.items()), sorted(questions.items())))
                self.assertEqual((library.decided, library.kept), (model.decided, model.kept))
            self.assertEqual(library.answers(), [(name, model.answer(name)) for name in sorted(questions)])
            self.assertEqual((library.decided, library.kept), (model.decided, model.kept))


class AnswersOnce(unittest.TestCase):
    def counted(self, library, *names):
        """Both counts after some questions are asked for."""
        for name in names:
            library.answer(name)
        return (library.decided, library.kept)

    def test_one_question(self):
        library = filled()
        self.assertEqual((library.decided, library.kept), (0, 0))
        self.assertEqual(self.counted(library, "q"), (1, 0))
        self.assertEqual(self.counted(library, "q", "q"), (1, 2))
        self.assertEqual(self.counted(library, "b", "cube"), (3, 2))
        library.answers()
        self.assertEqual((library.decided, library.kept), (3, 5))

    def test_equal_trees_under_two_names(self):
        library = Library()
        library.set_scheme("a", ("listed", [[0, 1], [1, 0]]))
        library.set_scheme("b", ("listed", ((0, 1), (1, 0))))
        library.set_scheme("c", ("words", 1, 2))
        library.set_scheme("d", ("product", ("words", 1, 2), samples.PAIR))
        library.product("e", "c", "a")
        for name in "abcde":
            library.ask(name, "points", name, [])
        self.assertEqual(self.counted(library, "a"), (1, 0))
        self.assertEqual(self.counted(library, "b"), (1, 1))
        # The same kinds of points in another tree are another scheme.
        self.assertEqual(self.counted(library, "c"), (2, 1))
        self.assertEqual(self.counted(library, "d"), (3, 1))
        self.assertEqual(self.counted(library, "e"), (3, 2))
        # A scheme that is listed out has the tree that was set under another name.
        library.list_out("d", "c")
        self.assertEqual(self.counted(library, "d"), (3, 3))

    def test_numbers_in_their_order_and_sorts(self):
        library = filled()
        for name, asked, numbers in (("n1", "bound", [2, 3]), ("n2", "bound", [3, 2]), ("n3", "greatest", [2, 3]),
                                     ("n4", "greatest", [2, 3, 3]), ("n5", "kind", [2, 3]), ("n6", "kind", [3, 2])):
            library.ask(name, asked, "cube", numbers)
        self.assertEqual(self.counted(library, "n1"), (1, 0))
        self.assertEqual(self.counted(library, "b"), (1, 1))
        self.assertEqual(self.counted(library, "n2"), (2, 1))
        self.assertEqual(self.counted(library, "n3"), (3, 1))
        self.assertEqual(self.counted(library, "n4"), (4, 1))
        self.assertEqual(self.counted(library, "n5"), (5, 1))
        self.assertEqual(self.counted(library, "n6"), (6, 1))

    def test_a_scheme_set_anew_while_questions_are_about_it(self):
        library = filled()
        self.assertEqual((library.answer("b"), library.answer("cube")), (("bound", 4, 1), ("kind", 3)))
        library.set_scheme("cube", ("words", 3, 3))
        self.assertEqual((library.answer("b"), library.answer("cube")), (("bound", 9, 1), ("kind", 2)))
        # The product that was made of it stays as it was.
        self.assertEqual(library.answer("q"), ("points", 16))
        self.assertEqual((library.decided, library.kept), (5, 0))
        library.undo()
        self.assertEqual((library.answer("b"), library.answer("cube")), (("bound", 4, 1), ("kind", 3)))
        self.assertEqual((library.decided, library.kept), (5, 2))

    def test_a_question_replaced_by_one_of_its_name(self):
        library = filled()
        library.answer("q")
        library.ask("q", "points", "pair", [])
        self.assertEqual(library.answer("q"), ("points", 2))
        self.assertEqual((library.decided, library.kept), (2, 0))
        library.undo()
        self.assertEqual(library.answer("q"), ("points", 16))
        self.assertEqual((library.decided, library.kept), (2, 1))

    def test_counts_and_answers_outlive_undo_and_drop(self):
        library = filled()
        library.answers()
        for _ in range(6):
            library.undo()
        self.assertEqual((library.decided, library.kept, library.answers()), (3, 0, []))
        library.set_scheme("w", CUBE)
        library.ask("other", "bound", "w", [2, 3])
        self.assertEqual((library.answer("other"), library.decided, library.kept), (("bound", 4, 1), 3, 1))
        library.drop("other")
        library.remove_scheme("w")
        library.set_scheme("v", CUBE)
        library.ask("again", "bound", "v", [2, 3])
        self.assertEqual((library.answer("again"), library.decided, library.kept), (("bound", 4, 1), 3, 2))

    def test_names_that_are_not_there_count_for_nothing(self):
        library = filled()
        for _ in range(3):
            with self.assertRaises(UnknownName):
                library.answer("x")
        self.assertEqual((library.decided, library.kept), (0, 0))

    def test_refused_and_many_are_answers_too(self):
        library = filled()
        library.set_scheme("many", MANY[0])
        library.ask("m", "greatest", "many", MANY[1])
        library.ask("r", "greatest", "cube", [0])
        library.ask("u", "kind", "cube", [8, 9])
        library.ask("s", "bound", "cube", [0])
        for expected in ((4, 0), (4, 4)):
            self.assertEqual([library.answer(name) for name in "mrus"],
                             [("many", 20000), ("refused",), ("unknown", 8), ("refused",)])
            self.assertEqual((library.decided, library.kept), expected)

    def test_a_kept_answer_is_not_computed(self):
        library = filled()
        library.answers()
        with mock.patch.object(module, "decide", side_effect=AssertionError):
            self.assertEqual(library.answers(), [("b", ("bound", 4, 1)), ("cube", ("kind", 3)), ("q", ("points", 16))])
        # Asking computes nothing.
        with mock.patch.object(module, "decide", side_effect=AssertionError):
            library.ask("new", "points", "cube", [])

    def test_each_library_counts_for_itself(self):
        one, other = filled(), filled()
        one.answers()
        self.assertEqual((other.decided, other.kept), (0, 0))
        other.answers()
        self.assertEqual((other.decided, other.kept), (3, 0))


if __name__ == "__main__":
    unittest.main()
