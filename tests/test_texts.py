"""Lots and papers about the linear bound as texts (points 71 to 75)."""

import copy
import random
import unittest
from fractions import Fraction

from schemebound.bounds import best_weights, linear_bound
from schemebound.errors import InvalidLot, InvalidNotation, InvalidPaper, InvalidQuestion, InvalidScheme, UnknownPoint
from schemebound.greatest import greatest, is_allowed
from schemebound.judging import weights_bound
from schemebound.schemes import kind_count, point_count
from schemebound.texts import check_greatest, check_weights_text, lot_text, parse_lot, parse_weights, weights_text

import samples

WHOLE = tuple(tree for tree in samples.SMALL if samples.has_whole_eigenvalues(tree)) + samples.LISTED_WHOLE
GREAT = (("words", 29, 2), ("words", 29, 117), ("words", 20, 1000), ("sets", 60, 29),
         ("product", ("words", 4, 1000), ("words", 5, 1000)))
CUBE = ("words", 3, 2)
MOST = "1" + "0" * 1999
TOO_LONG = "1" + "0" * 2000
NO_NUMBERS = ("", "00", "01", "-1", "+1", "1.0", "1e3", "0x1", "1_0", "x", TOO_LONG, "9" * 2001, "0" * 2000, "\u0663",
              "\u00b2", "\uff11", "1\u0660", "1,", "1\t", "1\r", "None")
# Right for the words of three figures by 2 and the kinds 2 and 3.
PAPER = ("bound 4 1", "weight 1 1", "weight 1 1", "weight 0 1", "weight 0 1")
NO_SCHEMES = (("words", 0, 2), samples.NINE_KINDS, ("listed", [[0, 1], [1, 1]]), ())


def text_of(*lines):
    """The text of these lines."""
    return "\n".join(lines)


def some_lots(tree, chance, many=4):
    """Some lots of a scheme, of one point, of a few, and of all as far as these are at most 500."""
    points = point_count(tree)
    sizes = [1, min(points, 500)] + [chance.randrange(1, min(points, 60) + 1) for _ in range(many)]
    return [list({chance.randrange(points): True for _ in range(size)}) if points > 10 ** 6 else
            chance.sample(range(points), size) for size in sizes]


class Lots(unittest.TestCase):
    def test_written_forms(self):
        for tree, lot, text in (
                (CUBE, [7, 0], "lot\npoint 7\npoint 0"), (CUBE, (0,), "lot\npoint 0"), (samples.ONE_POINT, [0], "lot\npoint 0"),
                (samples.PENTAGON, (4, 2, 3), "lot\npoint 4\npoint 2\npoint 3"),
                (("words", 20, 1000), [10 ** 60 - 1, 10 ** 59], "lot\npoint " + "9" * 60 + "\npoint 1" + "0" * 59),
                (("product", CUBE, samples.PAIR), [15, 10], "lot\npoint 15\npoint 10")):
            with self.subTest(tree):
                self.assertEqual(lot_text(tree, lot), text)

    def test_what_is_read_is_what_was_written(self):
        chance = random.Random(71)
        for tree in samples.SMALL + samples.MANY_POINTS:
            for lot in some_lots(tree, chance):
                text = lot_text(tree, lot)
                self.assertEqual(parse_lot(tree, text), lot)
                self.assertEqual(lot_text(tree, tuple(parse_lot(tree, text))), text)
                self.assertEqual(len(text.split("\n")), len(lot) + 1)
        self.assertIs(type(parse_lot(CUBE, "lot\npoint 5")), list)
        self.assertIs(type(lot_text(CUBE, [5])), str)

    def test_five_hundred_points_and_one_more(self):
        tree = ("words", 1, 600)
        text = text_of("lot", *[f"point {point}" for point in range(500)])
        self.assertEqual((lot_text(tree, list(range(500))), parse_lot(tree, text)), (text, list(range(500))))
        with self.assertRaises(InvalidLot):
            parse_lot(tree, text + "\npoint 500")
        with self.assertRaises(InvalidLot):
            lot_text(tree, list(range(501)))
        with self.assertRaises(UnknownPoint):
            parse_lot(tree, text + "\npoint 600")
        with self.assertRaises(InvalidNotation):
            parse_lot(tree, text + "\npoint 500\npoint 0500")

    def test_lines_that_cannot_stand(self):
        for text, line in (
                ("", 1), ("\n", 1), ("point 0", 1), ("Lot", 1), (" lot", 1), ("lot ", 1), ("lot 1", 1), ("lots", 1),
                ("\nlot\npoint 0", 1), ("lot\r\npoint 0", 1), ("lot\n", 2), ("lot\npoint 0\n", 3), ("lot\n\npoint 0", 2),
                ("lot\npoint 0\n\npoint 1", 3), ("lot\nlot", 2), ("lot\npoint 0\nlot\npoint 1", 3), ("lot\npoint", 2),
                ("lot\npoint ", 2), ("lot\npoint  0", 2), ("lot\npoint 0 ", 2), ("lot\n point 0", 2), ("lot\npoint\t0", 2),
                ("lot\npoint 0 1", 2), ("lot\n0", 2), ("lot\npoints 0", 2), ("lot\nPoint 0", 2), ("lot\nweight 0", 2),
                ("lot\npoint 9\npoint x\npoint", 3), ("lot\npoint 0\npoint 0\npoint 0\npoint", 5)):
            with self.subTest(text), self.assertRaises(InvalidNotation) as caught:
                parse_lot(CUBE, text)
            self.assertEqual(caught.exception.line, line)

    def test_integers(self):
        for word in NO_NUMBERS:
            for at, lines in ((2, ("point " + word,)), (3, ("point 9", "point " + word)), (2, ("point " + word, "point x"))):
                with self.subTest(word[:9]), self.assertRaises(InvalidNotation) as caught:
                    parse_lot(CUBE, text_of("lot", *lines))
                self.assertEqual(caught.exception.line, at)
        for word in (MOST, "9" * 2000, "1" * 61, "1" * 62, "8"):
            with self.subTest(word[:9]), self.assertRaises(UnknownPoint) as caught:
                parse_lot(CUBE, "lot\npoint 0\npoint 0\npoint " + word)
            self.assertEqual(caught.exception.point, int(word))

    def test_the_order_of_errors(self):
        for tree in NO_SCHEMES:
            for text in ("", "lot", "lot\npoint 0", "lot\npoint x", "lot\npoint 9\npoint 9"):
                with self.subTest(tree), self.assertRaises(InvalidScheme):
                    parse_lot(tree, text)
            for lot in ([], [0], [-1], [0, 0]):
                with self.subTest(tree), self.assertRaises(InvalidScheme):
                    lot_text(tree, lot)
        for text, point in (("lot\npoint 8", 8), ("lot\npoint 0\npoint 0\npoint 9\npoint 8", 9)):
            with self.assertRaises(UnknownPoint) as caught:
                parse_lot(CUBE, text)
            self.assertEqual(caught.exception.point, point)
        for text in ("lot", "lot\npoint 0\npoint 0", "lot\npoint 3\npoint 1\npoint 2\npoint 1"):
            with self.subTest(text), self.assertRaises(InvalidLot):
                parse_lot(CUBE, text)
        for lot, point in (([8], 8), ([-1], -1), ([0, 0, 9, -1], 9), ([10 ** 60], 10 ** 60)):
            with self.assertRaises(UnknownPoint) as caught:
                lot_text(CUBE, lot)
            self.assertEqual(caught.exception.point, point)
        for lot in ([], (), [1, 1], [0, 1, 2, 0]):
            with self.subTest(lot), self.assertRaises(InvalidLot):
                lot_text(CUBE, lot)


class WritingPapers(unittest.TestCase):
    def test_written_forms(self):
        self.assertEqual(weights_text(("words", 1, 2), []), "bound 1 1\nweight 1 1\nweight 0 1")
        self.assertEqual(weights_text(samples.ONE_POINT, ()), "bound 1 1\nweight 1 1")
        self.assertEqual(weights_text(("words", 2, 2), [1, 2]), text_of("bound 4 1", *["weight 1 1"] * 3))
        self.assertEqual(weights_text(("words", 4, 2), [3, 4]).split("\n")[0], "bound 8 3")

    def test_they_are_of_the_bound_and_the_best_weights(self):
        chance = random.Random(73)
        for tree in WHOLE + GREAT:
            kinds = range(1, kind_count(tree))
            for _ in range(3):
                allowed = chance.sample(kinds, chance.randrange(len(kinds) + 1))
                bound, weights = linear_bound(tree, allowed), best_weights(tree, allowed)
                text = weights_text(tree, allowed)
                with self.subTest(tree, allowed=allowed):
                    self.assertEqual(text, text_of(f"bound {bound[0]} {bound[1]}", *[f"weight {a} {b}" for a, b in weights]))
                    self.assertEqual(parse_weights(text), (bound, list(weights)))
                    self.assertIs(check_weights_text(tree, allowed, text), True)
                    self.assertIs(check_weights_text(tree, tuple(allowed[::-1]), text), True)


class ReadingPapers(unittest.TestCase):
    def test_fractions_as_they_are_written(self):
        for text, paper in (
                ("bound 1 1", ((1, 1), [])), ("bound 0 1", ((0, 1), [])), ("bound 4 2\nweight 0 9", ((4, 2), [(0, 9)])),
                ("bound 0 7\nweight 1 1\nweight 6 4\nweight 0 1", ((0, 7), [(1, 1), (6, 4), (0, 1)])),
                (f"bound {MOST} {MOST}\nweight {MOST} 1", ((10 ** 1999, 10 ** 1999), [(10 ** 1999, 1)])),
                (text_of("bound 5 5", *["weight 2 2"] * 500), ((5, 5), [(2, 2)] * 500))):
            with self.subTest(text[:50]):
                found = parse_weights(text)
                self.assertEqual(found, paper)
                self.assertEqual([type(found), type(found[0]), type(found[1])], [tuple, tuple, list])
                self.assertLessEqual({type(weight) for weight in found[1]}, {tuple})

    def test_lines_that_cannot_stand(self):
        for text, line in (
                ("", 1), ("\n", 1), ("bound", 1), ("bound 1", 1), ("bound 1 0", 1), ("bound 1 1 1", 1), ("bound  1 1", 1),
                ("bound 1  1", 1), ("bound 1 1 ", 1), (" bound 1 1", 1), ("Bound 1 1", 1), ("weight 1 1", 1), ("bounds 1 1", 1),
                ("bound\t1 1", 1), ("bound 1/1", 1), ("\nbound 1 1", 1), ("bound 0 0", 1), ("bound 1 1\n", 2),
                ("bound 1 1\n\nweight 1 1", 2), ("bound 1 1\nweight 1 1\n", 3), ("bound 1 1\nbound 1 1", 2),
                ("bound 1 1\nweight 1 1\nbound 1 1", 3), ("bound 1 1\nweight 1", 2), ("bound 1 1\nweight 1 0", 2),
                ("bound 1 1\nweight 0 0", 2), ("bound 1 1\nweight 1 1 1", 2), ("bound 1 1\nweight 1 1 ", 2),
                ("bound 1 1\nweight 1  1", 2), ("bound 1 1\n weight 1 1", 2), ("bound 1 1\nweights 1 1", 2),
                ("bound 1 1\nweight 1 1\nweight x 1\nweight", 3), ("bound 1 0\nweight", 1), ("bound 1 1\r\nweight 1 1", 1)):
            with self.subTest(text), self.assertRaises(InvalidPaper) as caught:
                parse_weights(text)
            self.assertEqual(caught.exception.line, line)
            with self.assertRaises(InvalidPaper) as caught:
                check_weights_text(CUBE, [2], text)
            self.assertEqual(caught.exception.line, line)
            with self.assertRaises(InvalidPaper) as caught:
                check_greatest(CUBE, [2], [0, 3], text)
            self.assertEqual(caught.exception.line, line)

    def test_integers(self):
        for word in NO_NUMBERS:
            for lines, at in (((f"bound {word} 1",), 1), ((f"bound 1 {word}",), 1), (("bound 1 1", f"weight {word} 1"), 2),
                              (("bound 1 1", "weight 1 1", f"weight 1 {word}"), 3)):
                with self.subTest(word[:9]), self.assertRaises(InvalidPaper) as caught:
                    parse_weights(text_of(*lines))
                self.assertEqual(caught.exception.line, at)


class RightPapers(unittest.TestCase):
    def assert_right(self, allowed, lines, right):
        with self.subTest(lines):
            self.assertIs(check_weights_text(CUBE, allowed, text_of(*lines)), right)

    def test_the_bound_of_a_paper(self):
        for bound, right in (("4 1", True), ("8 2", True), ("5 1", True), ("4001 1000", True), ("3999 1000", False), ("3 1", False),
                             ("0 1", False), (f"{MOST} 1", True), (f"1 {MOST}", False), ("39 10", False), ("41 10", True)):
            self.assert_right([2, 3], ("bound " + bound,) + PAPER[1:], right)
            self.assert_right([3], ("bound " + bound,) + PAPER[1:], right)

    def test_how_many_weights(self):
        self.assert_right([2, 3], PAPER, True)
        self.assert_right([2, 3], PAPER[:-1], False)
        self.assert_right([2, 3], PAPER + ("weight 0 1",), False)
        self.assert_right([2, 3], PAPER[:1], False)
        self.assert_right([], ("bound 1 1",), False)
        self.assertIs(check_weights_text(samples.ONE_POINT, [], "bound 1 1\nweight 1 1"), True)
        self.assertIs(check_weights_text(samples.ONE_POINT, [], "bound 1 1\nweight 3 3"), True)
        for text in ("bound 1 1", "bound 1 1\nweight 1 1\nweight 0 1", "bound 0 1\nweight 1 1", "bound 1 2\nweight 1 1",
                     "bound 9 1\nweight 2 1"):
            self.assertIs(check_weights_text(samples.ONE_POINT, [], text), False)

    def test_weights_that_are_not_right(self):
        for at, line in ((1, "weight 2 1"), (1, "weight 0 1"), (2, "weight 0 1"), (2, "weight 99 100"), (1, "weight 999 1000")):
            lines = list(PAPER)
            lines[at] = line
            self.assert_right([2, 3], ["bound 100 1"] + lines[1:], False)
        self.assert_right([2, 3], ("bound 4 1", "weight 7 7", "weight 6 6", "weight 0 3", "weight 0 9"), True)
        self.assert_right([1], ("bound 100 1",) + PAPER[1:], False)
        self.assert_right([1, 2, 3], ("bound 100 1",) + PAPER[1:], False)

    def test_papers_that_are_changed(self):
        chance = random.Random(74)
        outcomes = []
        for tree in WHOLE:
            kinds = range(1, kind_count(tree))
            for _ in range(8):
                allowed = chance.sample(kinds, chance.randrange(len(kinds) + 1))
                bound, weights = parse_weights(weights_text(tree, allowed))
                fractions = [Fraction(*bound)] + [Fraction(*weight) for weight in weights]
                fractions[chance.randrange(len(fractions))] += Fraction(chance.choice((-1, 1)), chance.choice((1, 3, 10 ** 9)))
                if chance.random() < 0.3:
                    fractions[0] += 1
                if min(fractions) < 0:
                    continue
                by = chance.choice((1, 2, 12))
                pairs = [(one.numerator * by, one.denominator * by) for one in fractions]
                text = text_of(*[f"{'weight' if at else 'bound'} {a} {b}" for at, (a, b) in enumerate(pairs)])
                shown = weights_bound(tree, allowed, pairs[1:])
                expected = shown is not None and Fraction(*shown) <= fractions[0]
                self.assertIs(check_weights_text(tree, allowed, text), expected)
                if expected:
                    self.assertGreaterEqual(fractions[0], Fraction(*linear_bound(tree, allowed)))
                outcomes.append(expected)
        self.assertGreater(min(outcomes.count(True), outcomes.count(False)), 40)

    def test_the_order_of_errors(self):
        for tree in NO_SCHEMES:
            for text in ("", text_of(*PAPER)):
                with self.assertRaises(InvalidScheme):
                    check_weights_text(tree, [0], text)
                with self.assertRaises(InvalidScheme):
                    check_greatest(tree, [0], [-1, -1], text)
                with self.assertRaises(InvalidScheme):
                    weights_text(tree, [0])
        for tree, allowed in ((("words", 30, 2), []), (samples.PENTAGON, []), (CUBE, [0]), (CUBE, [4]), (CUBE, [1, 1]),
                              (("product", samples.PENTAGON, CUBE), [1])):
            for text in ("", "bound 1 0", "bound 1 1"):
                with self.subTest(tree), self.assertRaises(InvalidQuestion):
                    check_weights_text(tree, allowed, text)
            with self.subTest(tree), self.assertRaises(InvalidQuestion):
                weights_text(tree, allowed)


class GreatestLots(unittest.TestCase):
    def test_bounds_around_the_number_of_points_and_one(self):
        tree, lot = CUBE, [0, 3, 5, 6]
        for bound, right in (("4 1", True), ("4999 1000", True), ("5 1", False), ("10 2", False), ("5001 1000", False),
                             ("3999 1000", False), ("49 10", True), ("6 1", False)):
            self.assertIs(check_greatest(tree, [2, 3], lot, text_of("bound " + bound, *PAPER[1:])), right)
        # One point less is not shown to be the greatest.
        self.assertIs(check_greatest(tree, [2, 3], lot[:3], text_of(*PAPER)), False)
        self.assertIs(check_greatest(tree, [2, 3], [], text_of(*PAPER)), False)

    def test_lots_with_other_kinds(self):
        text = text_of(*PAPER)
        for lot, right in (([0, 3, 5, 6], True), ((1, 2, 4, 7), True), ([0, 3, 5, 7], False), ([0, 1, 2, 3], False)):
            self.assertIs(check_greatest(CUBE, [2, 3], lot, text), right)
            self.assertIs(check_greatest(CUBE, (3, 2), lot, text), right)
        self.assertIs(check_greatest(CUBE, [3], [0, 7], text), False)

    def test_the_paper_has_to_be_right(self):
        for lines in (PAPER[:-1], PAPER + ("weight 0 1",), ("bound 3 1",) + PAPER[1:], PAPER[:1] + ("weight 2 1",) + PAPER[2:]):
            self.assertIs(check_greatest(CUBE, [2, 3], [0, 3, 5, 6], text_of(*lines)), False)

    def test_lots_that_meet_the_bound(self):
        chance = random.Random(75)
        outcomes = set()
        for tree in WHOLE + (samples.SHRIKHANDE,):
            if point_count(tree) > 40:
                continue
            kinds = range(1, kind_count(tree))
            for allowed in [[1][:len(kinds)]] + [chance.sample(kinds, chance.randrange(len(kinds) + 1)) for _ in range(4)]:
                found, text = greatest(tree, allowed, limit=10 ** 6), weights_text(tree, allowed)
                expected = Fraction(*linear_bound(tree, allowed)) < len(found) + 1
                self.assertIs(check_greatest(tree, allowed, found, text), expected)
                self.assertIs(check_greatest(tree, allowed, found[1:], text), False)
                outcomes.add(expected)
        self.assertEqual(outcomes, {True, False})

    def test_one_point_and_none(self):
        for tree, lot, right in ((samples.ONE_POINT, [0], True), (samples.ONE_POINT, [], False), (CUBE, [5], True), (CUBE, [], False)):
            self.assertIs(check_greatest(tree, [], lot, weights_text(tree, [])), right)

    def test_a_lot_of_many_points(self):
        tree, lot = ("words", 10, 2), list(range(1024))
        text = weights_text(tree, list(range(1, 11)))
        self.assertIs(check_greatest(tree, list(range(1, 11)), lot, text), True)
        self.assertIs(check_greatest(tree, list(range(1, 11)), lot[1:], text), False)

    def test_the_order_of_errors(self):
        for tree, allowed, lot, text, error in (
                (CUBE, [0], [-1, -1], "", InvalidQuestion), (CUBE, [4], [8], "", InvalidQuestion), (CUBE, [1], [8, 0, 0], "", UnknownPoint),
                (CUBE, [1, 1], [-1], "", UnknownPoint), (CUBE, [1], [0, 0], "", InvalidLot), (CUBE, [1, 1], [0, 0], "", InvalidLot),
                (CUBE, [1, 1], [0], "", InvalidQuestion), (CUBE, [1], [0], "", InvalidPaper), (CUBE, [1], [0, 7], "bound 1", InvalidPaper),
                (samples.PENTAGON, [1], [9], "", UnknownPoint), (samples.PENTAGON, [1], [0, 0], "", InvalidLot),
                (samples.PENTAGON, [1], [0], "", InvalidQuestion), (("words", 30, 2), [1], [0], "", InvalidQuestion),
                (("words", 30, 2), [1], [-1], "", UnknownPoint)):
            with self.subTest(tree, lot=lot), self.assertRaises(error):
                check_greatest(tree, allowed, lot, text)
        # A kind that is allowed twice is no hindrance for `is_allowed`, but one for the paper.
        self.assertIs(is_allowed(CUBE, [3, 3], [0, 7]), True)

    def test_arguments_stay_as_they_were(self):
        rows = [[0, 1, 2, 2], [1, 0, 2, 2], [2, 2, 0, 1], [2, 2, 1, 0]]
        tree, allowed, lot = ("listed", rows), [2, 1], [3, 0, 1, 2]
        text = weights_text(tree, allowed)
        kept = copy.deepcopy((tree, allowed, lot))
        for _ in range(2):
            self.assertEqual((lot_text(tree, lot), weights_text(tree, allowed)), ("lot\npoint 3\npoint 0\npoint 1\npoint 2", text))
            parse_lot(tree, "lot\npoint 1").append(9)
            parse_weights(text)[1].append(9)
            self.assertIs(check_weights_text(tree, allowed, text), True)
            self.assertIs(check_greatest(tree, allowed, lot, text), True)
            self.assertEqual((tree, allowed, lot), kept)
            self.assertEqual((parse_lot(tree, "lot\npoint 1"), len(parse_weights(text)[1])), ([1], 3))


if __name__ == "__main__":
    unittest.main()
