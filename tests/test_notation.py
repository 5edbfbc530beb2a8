"""The written form of schemes and its parsing (points 8 and 9)."""

import unittest

from schemebound.errors import InvalidNotation, InvalidScheme
from schemebound.notation import format_scheme, parse_scheme
from schemebound.schemes import is_scheme

import samples

MOST = "1" + "0" * 60
TOO_LONG = "1" + "0" * 61


def text_of(*lines):
    """The text of these lines."""
    return "\n".join(lines)


class Writing(unittest.TestCase):
    def test_forms(self):
        for tree, lines in (
            (("words", 3, 2), ("words 3 2",)),
            (("words", 20, 1000), ("words 20 1000",)),
            (("sets", 80, 40), ("sets 80 40",)),
            (("listed", [[0]]), ("listed 1", "row 0")),
            (("listed", [(0, 1), [1, 0]]), ("listed 2", "row 0 1", "row 1 0")),
            (("product", ("words", 2, 3), ("sets", 4, 2)), ("product", "words 2 3", "sets 4 2")),
            (("product", ("product", ("words", 1, 2), samples.PAIR), ("sets", 2, 1)),
             ("product", "product", "words 1 2", "listed 2", "row 0 1", "row 1 0", "sets 2 1")),
            (("product", ("words", 1, 2), ("product", samples.ONE_POINT, ("sets", 2, 1))),
             ("product", "words 1 2", "product", "listed 1", "row 0", "sets 2 1")),
        ):
            with self.subTest(tree):
                self.assertEqual(format_scheme(tree), text_of("scheme", *lines))

    def test_all_kinds_of_a_row_are_written(self):
        lines = format_scheme(samples.CUBE_OF_KINDS).split("\n")
        self.assertEqual(lines[:4], ["scheme", "listed 8", "row 0 1 2 3 4 5 6 7", "row 1 0 3 2 5 4 7 6"])
        self.assertEqual(len(lines), 10)

    def test_parsing_returns_the_tree(self):
        seven_parts = ("product", samples.chain([samples.PENTAGON, ("words", 2, 7)]),
                       samples.chain([samples.ONE_POINT, ("sets", 4, 2)]))
        for tree in samples.SMALL + samples.MANY_POINTS + (seven_parts,):
            with self.subTest(tree):
                self.assertEqual(parse_scheme(format_scheme(tree)), tree)

    def test_what_is_parsed_is_of_tuples(self):
        tree = parse_scheme("scheme\nproduct\nwords 1 2\nlisted 2\nrow 0 1\nrow 1 0")
        self.assertEqual([type(tree), type(tree[2]), type(tree[2][1]), type(tree[2][1][0])], [tuple] * 4)


class Faults(unittest.TestCase):
    def assert_line(self, text, line):
        with self.subTest(text[:200]):
            with self.assertRaises(InvalidNotation) as caught:
                parse_scheme(text)
            self.assertEqual(caught.exception.line, line)

    def assert_no_scheme(self, *lines):
        with self.subTest(lines[:20]), self.assertRaises(InvalidScheme):
            parse_scheme(text_of(*lines))

    def test_the_first_line(self):
        for text in ("", "\n", "words 3 2", "Scheme\nwords 3 2", " scheme\nwords 3 2", "scheme \nwords 3 2",
                     "scheme words 3 2", "scheme 1\nwords 3 2", "\nscheme\nwords 3 2", "schemes", "\tscheme",
                     "scheme\rwords 3 2", "scheme\r\nwords 3 2"):
            self.assert_line(text, 1)

    def test_texts_that_break_off(self):
        whole = text_of("scheme", "product", "listed 2", "row 0 1", "row 1 0", "product", "words 2 3", "sets 4 2")
        self.assertEqual(parse_scheme(whole)[0], "product")
        lines = whole.split("\n")
        for many in range(1, len(lines)):
            self.assert_line(text_of(*lines[:many]), many + 1)
        self.assert_line("scheme", 2)
        self.assert_line("scheme\nproduct\nsets 6 3", 4)
        self.assert_line("scheme\nproduct\nlisted 0", 4)
        # Parts that are no schemes do not come ahead of the form.
        self.assert_line("scheme\nproduct\nwords 0 0", 4)

    def test_empty_lines(self):
        self.assert_line("scheme\n", 2)
        self.assert_line("scheme\n\nwords 3 2", 2)
        self.assert_line("scheme\nwords 3 2\n", 3)
        self.assert_line("scheme\nlisted 1\n\nrow 0", 3)
        self.assert_line("scheme\nlisted 1\nrow 0\n", 4)
        self.assert_line("scheme\nlisted 1\nrow 0\n\n", 4)

    def test_lines_that_never_stand(self):
        for line in ("words", "words 3", "words 3 2 1", "words  3 2", "words 3  2", "words 3 2 ", " words 3 2",
                     "words\t3 2", "words 3\t2", "words,3,2", "WORDS 3 2", "word 3 2", "words3 2", "sets", "sets 4",
                     "sets 4 2 1", "listed", "listed ", "listed 1 2", "listed x", "product ", "product 2", " product",
                     "products", "scheme", "row", "row 0", "row 0 1", "end", "0", "3 2", "#", "words 3 2 # two",
                     "words 3 2\r", "words 3\u00a02"):
            self.assert_line("scheme\n" + line, 2)
            self.assert_line("scheme\nproduct\n" + line + "\nwords 3 2", 3)
            self.assert_line("scheme\nproduct\nwords 3 2\n" + line, 4)

    def test_integers(self):
        for word in ("", "00", "01", "007", "-1", "+1", "1.0", "1e3", "0x1", "1_0", "x", "--1", TOO_LONG, "9" * 62,
                     "0" * 61, "0" + "1" * 60, "\u0663", "\u00b2", "\uff11", "1\u0660", "1,", "None", "True"):
            self.assert_line("scheme\nwords " + word + " 2", 2)
            self.assert_line("scheme\nwords 2 " + word, 2)
            self.assert_line("scheme\nsets 4 " + word, 2)
            self.assert_line("scheme\nsets " + word + " 2", 2)
            self.assert_line("scheme\nlisted " + word, 2)
            self.assert_line("scheme\nlisted 1\nrow " + word, 3)
            self.assert_line("scheme\nlisted 2\nrow 0 1\nrow 1 " + word, 4)
        for word in ("0", MOST, "9" * 61, "1" * 60):
            self.assert_no_scheme("scheme", "words " + word + " 2")
            self.assert_no_scheme("scheme", "words 2 " + word)
            self.assert_no_scheme("scheme", "sets 4 " + word)
            self.assert_no_scheme("scheme", "listed " + word)
            self.assert_no_scheme("scheme", "listed " + word, "row 0")
            self.assert_no_scheme("scheme", "listed 2", "row 0 " + word, "row " + word + " 0")

    def test_rows_stand_behind_listed_and_rows_alone(self):
        self.assert_line("scheme\nrow 0", 2)
        self.assert_line("scheme\nwords 3 2\nrow 0", 3)
        self.assert_line("scheme\nproduct\nrow 0\nwords 3 2", 3)
        self.assert_line("scheme\nproduct\nlisted 1\nrow 0\nwords 1 2\nrow 0", 6)
        self.assert_line("scheme\nproduct\nlisted 2\nrow 0 1\nsets 2 1\nrow 1 0", 6)
        self.assert_line("scheme\nlisted 1\nrow", 3)
        self.assert_line("scheme\nlisted 1\nrow ", 3)
        self.assert_line("scheme\nlisted 1\nrow 0\nlisted 1\nrow 0", 4)

    def test_lines_behind_the_whole_tree(self):
        for line in ("words 3 2", "product", "sets 4 2", "listed 1", "scheme", "x", " "):
            self.assert_line("scheme\nwords 3 2\n" + line, 3)
            self.assert_line("scheme\nproduct\nwords 3 2\nwords 3 2\n" + line, 5)
            self.assert_line("scheme\nlisted 1\nrow 0\n" + line, 4)

    def test_the_first_fault_counts(self):
        self.assert_line("scheme\nproduct\nwords 0\nrow\n\n", 3)
        self.assert_line("scheme\nwords 3 2\nwords 3\nwords", 3)
        self.assert_line("scheme\nwords 0 0\nwords", 3)
        self.assert_line("scheme\nlisted 5\nrow 9 9\nrow x", 4)

    def test_right_forms_of_no_scheme(self):
        for lines in (
            ("words 0 2",), ("words 41 2",), ("words 3 1",), ("words 3 1001",), ("words 21 1000",), ("words 40 32",),
            ("sets 3 2",), ("sets 81 2",), ("sets 4 0",), ("sets 0 0",), ("product", "words 1 2", "words 0 2"),
            ("product", "sets 3 2", "words 1 2"), ("listed 2", "row 0 1", "row 1 1"), ("listed 1", "row 1"),
            ("listed 2", "row 0 1 1", "row 1 0"), ("listed 2", "row 0", "row 1 0"), ("listed 1", "row 0 1"),
            ("listed 2", "row 0 8", "row 8 0"), ("product", "words 6 2", "words 8 2"),
            ("product", "words 20 1000", "words 1 2"),
        ):
            self.assert_no_scheme("scheme", *lines)

    def test_another_number_of_rows(self):
        pair = ("row 0 1", "row 1 0")
        for written in (0, 1, 3, 10 ** 60):
            self.assert_no_scheme("scheme", f"listed {written}", *pair)
            self.assert_no_scheme("scheme", "product", f"listed {written}", *pair, "words 1 2")
            self.assert_no_scheme("scheme", "product", "words 1 2", f"listed {written}", *pair)
        for rows in ((), pair[:1], pair + pair[:1], pair * 500):
            self.assert_no_scheme("scheme", "listed 2", *rows)
        self.assert_no_scheme("scheme", "listed 0")
        self.assert_no_scheme("scheme", "listed 1")
        self.assert_no_scheme("scheme", "product", "listed 0", "listed 0")

    def test_many_rows(self):
        rows_24 = ["row " + " ".join(str(int(x != y)) for y in range(24)) for x in range(24)]
        self.assertEqual(parse_scheme(text_of("scheme", "listed 24", *rows_24)), samples.ROWS_24)
        rows_25 = ["row " + " ".join(str(int(x != y)) for y in range(25)) for x in range(25)]
        self.assert_no_scheme("scheme", "listed 25", *rows_25)

    def test_eight_and_nine_kinds(self):
        for tree in (samples.EIGHT_KINDS, samples.NINE_KINDS):
            rows = ["row " + " ".join(str(kind) for kind in row) for row in tree[1]]
            text = text_of("scheme", f"listed {len(rows)}", *rows)
            if is_scheme(tree):
                self.assertEqual(parse_scheme(text), tree)
            else:
                self.assert_no_scheme(text)

    def test_many_parts(self):
        one = ("listed 1", "row 0")
        self.assertEqual(parse_scheme(text_of("scheme", *("product",) * 3, *one * 4))[0], "product")
        self.assert_no_scheme("scheme", *("product",) * 4, *one * 5)
        self.assert_no_scheme("scheme", *("product", "listed 1", "row 0") * 4, *one)
        for many in (1000, 20000):
            self.assert_line("scheme" + "\nproduct" * many, many + 2)
            self.assert_line("scheme" + "\nproduct" * many + "\nwords 1 2" * many, 2 * many + 2)
            self.assert_line("scheme" + "\nproduct" * many + "\nwords 1 2" * (many + 2), 2 * many + 3)
            self.assert_no_scheme("scheme", *("product",) * many, *("words 1 2",) * (many + 1))
            self.assert_no_scheme("scheme", *("product", "words 1 2") * many, "words 1 2")


if __name__ == "__main__":
    unittest.main()
