"""The words of lines, and which of them are commands (points 64 and 65)."""

import unittest

from schemebound.commands import is_command, split_words

NAMES = ("a", "z9", "end", "scheme", "abcdefghijkl", "a0b1c2d3e4f5")
NO_NAMES = ("A", "1", "1a", "a_b", "abcdefghijklm", "a-", "\u00e9", "a\t", "-", "a:", "\t")
NUMBERS = ("0", "7", "10", "9" * 61, "1" + "0" * 60)
NO_NUMBERS = ("00", "01", "-1", "+1", "1.0", "1_0", "0x1", "1" + "0" * 61, "9" * 62, "\u0663", "\u00b2", "1\t", "a", "0" * 61)
PLAIN = {"scheme": 1, "product": 3, "list": 2, "remove": 1, "drop": 1, "answer": 1, "answers": 0, "print": 1, "schemes": 0,
         "questions": 0, "undo": 0, "redo": 0}
ASKED = {"points": (0,), "kind": (2,), "greatest": range(7), "bound": range(7)}


class Words(unittest.TestCase):
    def test_parts_between_spaces(self):
        for line, words in (
                ("", []), (" ", []), ("     ", []), ("a", ["a"]), (" a", ["a"]), ("a  ", ["a"]), ("a b", ["a", "b"]),
                ("  a   b  c ", ["a", "b", "c"]), ("a\tb", ["a\tb"]), ("\t", ["\t"]), (" \t ", ["\t"]), ("a\r", ["a\r"]),
                ("a\u00a0b", ["a\u00a0b"]), ("a\u2003b c", ["a\u2003b", "c"]), ("a\x0bb\x0c", ["a\x0bb\x0c"]),
                ("row 0  1", ["row", "0", "1"])):
            with self.subTest(line):
                self.assertEqual(split_words(line), words)
                self.assertIs(type(split_words(line)), list)

    def test_a_new_list_each_time(self):
        split_words("a b").append("c")
        self.assertEqual(split_words("a b"), ["a", "b"])


class Commands(unittest.TestCase):
    def assert_command(self, words, expected):
        with self.subTest(words):
            kept = list(words)
            self.assertIs(is_command(words), expected)
            self.assertEqual(words, kept)

    def test_commands_with_names_alone(self):
        for first, many in PLAIN.items():
            for other in range(6):
                for name in NAMES:
                    self.assert_command([first] + [name] * other, other == many)
                for name in NO_NAMES + ("0", ""):
                    for at in range(other):
                        words = ["a"] * other
                        words[at] = name
                        self.assert_command([first] + words, False)

    def test_the_name_at_each_place_may_be_another(self):
        self.assert_command(["product", "a", "b2", "product"], True)
        self.assert_command(["list", "list", "b"], True)

    def test_how_many_numbers_a_question_has(self):
        for asked, allowed in ASKED.items():
            for many in range(9):
                for number in NUMBERS:
                    self.assert_command(["ask", "q", asked, "w"] + [number] * many, many in allowed)

    def test_the_words_of_a_question(self):
        for asked, allowed in ASKED.items():
            for many in allowed:
                words = ["ask", "q", asked, "w"] + ["1"] * many
                for name in NAMES:
                    self.assert_command(["ask", name, asked, name] + words[4:], True)
                for name in NO_NAMES + ("0", ""):
                    self.assert_command(["ask", name] + words[2:], False)
                    self.assert_command(words[:3] + [name] + words[4:], False)
                for at in range(4, len(words)):
                    for number in NO_NUMBERS + ("",):
                        self.assert_command(words[:at] + [number] + words[at + 1:], False)
                for cut in range(1, 4):
                    self.assert_command(words[:cut], False)

    def test_other_sorts(self):
        for asked in ("point", "Points", "kinds", "shares", "", "ask", "0", "lots"):
            for many in range(8):
                self.assert_command(["ask", "q", asked, "w"] + ["1"] * many, False)

    def test_what_is_no_command(self):
        for words in (["end"], ["words", "3", "2"], ["sets", "4", "2"], ["row", "0"], ["listed", "1"], ["Undo"], ["UNDO"],
                      ["undo", "1"], ["undo", "a"], ["help"], ["#"], ["scheme:", "a"], ["set", "a"], ["set_scheme", "a"],
                      ["list_out", "a", "b"], ["change_all"], ["question", "a"], ["answers", "a"], ["question"], ["ok"],
                      ["undo\r"], ["\tundo"], ["undo\tredo"], [""], ["0"], ["a"], ["ask"]):
            self.assert_command(words, False)


if __name__ == "__main__":
    unittest.main()
