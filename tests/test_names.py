"""What a name is (point 59)."""

import unittest

from schemebound.names import is_name


class Names(unittest.TestCase):
    def test_names(self):
        for text in ("a", "z", "ab", "a1", "z0", "a0b1c2d3e4f5", "abcdefghijkl", "mnopqrstuvwx", "yz", "a234567890"):
            with self.subTest(text):
                self.assertIs(is_name(text), True)

    def test_how_many_characters(self):
        for many in range(20):
            self.assertIs(is_name("a" * many), 1 <= many <= 12)
            self.assertIs(is_name("a" + "0" * many), many <= 11)

    def test_what_is_no_name(self):
        for text in ("", "0", "9a", "1", "A", "aB", "Z9", "a_", "_a", "a-b", "a b", " a", "a ", "a\n", "\n", "a.b", "\t",
                     "\u00e9", "a\u00e9", "\u0663", "a\u0663", "a\u00b2", "\uff41", "a\x00", "`a", "a{", "a/", "a:"):
            with self.subTest(text):
                self.assertIs(is_name(text), False)

    def test_each_character(self):
        letters, figures = "abcdefghijklmnopqrstuvwxyz", "0123456789"
        for code in range(1200):
            character = chr(code)
            self.assertIs(is_name(character), character in letters)
            self.assertIs(is_name("x" + character), character in letters + figures)
            self.assertIs(is_name("x" + character + "y"), character in letters + figures)


if __name__ == "__main__":
    unittest.main()
