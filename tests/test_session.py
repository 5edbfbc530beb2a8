"""Sessions: a library used by lines of text (points 64 to 68, and 8 and 9 for the lines of schemes)."""

import random
import unittest

from schemebound.errors import SchemeboundError
from schemebound.library import Library
from schemebound.notation import format_scheme
from schemebound.session import Session

import samples

CUBE = ("words", 3, 2)


def text_of(*lines):
    """The text of these lines."""
    return "\n".join(lines)


def block_of(name, tree):
    """The lines of a block that sets a scheme."""
    return [f"scheme {name}", *format_scheme(tree).split("\n")[1:], "end"]


def begun(*trees):
    """A session with schemes under the names s0, s1 and so on."""
    session = Session()
    for at, tree in enumerate(trees):
        session.library.set_scheme(f"s{at}", tree)
    return session


class Transcripts(unittest.TestCase):
    def assert_answers(self, session, *pairs):
        """Each pair is a line and what it answers: a text, a list of texts, or None for nothing."""
        text = text_of(*[line for line, _ in pairs])
        expected = []
        for _, answer in pairs:
            expected.extend([] if answer is None else [answer] if isinstance(answer, str) else answer)
        self.assertEqual(session.run(text), expected)

    def test_the_whole_of_it(self):
        self.assert_answers(
            Session(),
            ("schemes", "schemes:"), ("questions", "questions:"), ("answers", None), ("scheme w", "ok"), ("words 3 2", None),
            ("end", "ok"), ("scheme pair", "ok"), ("listed 2", None), ("row 0 1", None), ("row 1 0", None), ("end", "ok"),
            ("product both w pair", "ok"), ("list pair pair", "ok"), ("schemes", "schemes: both pair w"),
            ("print both", ["scheme", "product", "words 3 2", "listed 2", "row 0 1", "row 1 0"]),
            ("ask n points both", "ok"), ("ask k kind w 0 7", "ok"), ("ask u kind w 8 9", "ok"),
            ("ask g greatest w 2 3", "ok"), ("ask b bound w 3 2", "ok"), ("ask r bound w 0", "ok"), ("ask e greatest w", "ok"),
            ("ask w bound w", "ok"), ("questions", "questions: b e g k n r u w"),
            ("answers", ["b: bound 4 1", "e: greatest 1", "g: greatest 4", "k: kind 3", "n: points 16", "r: refused",
                         "u: unknown 8", "w: bound 1 1"]),
            ("answer u", "u: unknown 8"), ("drop u", "ok"), ("answer u", "line 28: unknown name u"), ("undo", "ok"),
            ("answer u", "u: unknown 8"), ("redo", "ok"), ("questions", "questions: b e g k n r w"),
            ("remove w", "line 33: name in use w"), ("remove pair", "ok"), ("schemes", "schemes: both w"),
            ("print pair", "line 36: unknown name pair"), ("undo", "ok"), ("print pair", ["scheme", "listed 2", "row 0 1", "row 1 0"]))

    def test_what_is_in_the_library(self):
        session = Session()
        session.run(text_of(*block_of("w", CUBE), "ask q kind w 1 2", "product p w w", "list t w", "ask n points t"))
        library = session.library
        self.assertIsInstance(library, Library)
        self.assertEqual(library.scheme_names(), ["p", "t", "w"])
        self.assertEqual((library.scheme("w"), library.scheme("p")), (CUBE, ("product", CUBE, CUBE)))
        self.assertEqual(library.question("q"), ("kind", "w", (1, 2)))
        self.assertEqual((library.question("n"), library.answer("n")), (("points", "t", ()), ("points", 8)))
        # It is one library, used from both sides.
        library.drop("n")
        library.set_scheme("x", samples.PAIR)
        self.assertEqual(session.run("questions\nprint x\nundo\nundo\nquestions\nschemes"), [
            "questions: q", "scheme", "listed 2", "row 0 1", "row 1 0", "ok", "ok", "questions: n q", "schemes: p t w"])

    def test_all_answers(self):
        many = ("product", ("sets", 5, 2), ("words", 1, 10))
        session = begun(CUBE, samples.PENTAGON, ("words", 20, 1000), many, ("words", 4, 2), ("words", 29, 2))
        great = "1" + "0" * 60
        self.assert_answers(
            session, ("ask a points s2", "ok"), ("answer a", "a: points " + great),
            (f"ask a kind s2 {great} 0", "ok"), ("answer a", "a: unknown " + great), ("ask a kind s2 0 " + "9" * 61, "ok"),
            ("answer a", "a: unknown " + "9" * 61), ("ask a kind s2 0 " + "9" * 60, "ok"), ("answer a", "a: kind 20"),
            ("ask a greatest s3 1 3 4 5", "ok"), ("answer a", "a: many 20000"), ("ask a greatest s2 20", "ok"),
            ("answer a", "a: refused"), ("ask a greatest s1 1 1 1 1 1 1", "ok"), ("answer a", "a: greatest 2"),
            ("ask a bound s1 1", "ok"), ("answer a", "a: refused"), ("ask a bound s4 4 3", "ok"), ("answer a", "a: bound 8 3"),
            ("ask a bound s5 1 1", "ok"), ("answer a", "a: refused"), ("ask a bound s5", "ok"), ("answer a", "a: bound 1 1"))

    def test_answers_are_asked_once_each(self):
        session = begun(CUBE)
        session.run("ask a points s0\nask b bound s0 1\nask c bound s0 1")
        library = session.library
        self.assertEqual((library.decided, library.kept), (0, 0))
        session.run("answers")
        self.assertEqual((library.decided, library.kept), (2, 1))
        session.run("answer c\nanswer x\nprint s0\nschemes\nquestions")
        self.assertEqual((library.decided, library.kept), (2, 2))


class Lines(unittest.TestCase):
    def test_spaces_and_lines_without_words(self):
        session = Session()
        for text in ("", " ", "\n", "\n\n\n", "   \n  "):
            self.assertEqual(session.run(text), [])
        self.assertEqual(session.run("\n  scheme   w  \n\n  words  3   2\n\n end  \n\n   schemes\nx\n\n y z "), [
            "ok", "ok", "schemes: w", "line 9: invalid command", "line 11: invalid command"])
        self.assertEqual(session.run("print w"), ["scheme", "words 3 2"])

    def test_lines_are_parted_by_newlines_alone(self):
        session = begun(CUBE)
        for other in ("\r", "\r\n", "\x0b", "\x0c", "\x1c", "\u2028", "\x85"):
            text = "schemes" + other + "schemes"
            expected = ["line 1: invalid command"]
            self.assertEqual(session.run(text), expected + (["schemes: s0"] if "\n" in other else []))

    def test_lines_are_numbered_anew_in_each_call(self):
        session = Session()
        self.assertEqual(session.run("x\n\nx"), ["line 1: invalid command", "line 3: invalid command"])
        self.assertEqual(session.run("\nx\nundo"), ["line 2: invalid command", "line 3: nothing to undo"])
        self.assertEqual(session.run("scheme w\nwords 3"), ["ok"])
        self.assertEqual(session.run("\n\nend"), ["line 3: invalid notation 1"])

    def test_invalid_commands_do_nothing(self):
        session = begun(CUBE)
        session.run("ask q points s0")
        for line in ("end", "words 3 2", "scheme", "scheme A", "scheme abcdefghijklm", "scheme a b", "product p s0", "undo 1",
                     "ask q kind s0 0", "ask q kind s0 0 01", "ask q kind s0 0 -1", "ask q kind s0 0 " + "1" * 62,
                     "ask q points s0 0", "ask q bound s0 1 2 3 4 5 6 7", "ask q lots s0", "drop", "remove s0 s0", "Undo",
                     "list a", "answer", "answers q", "print", "redo now", "schemes s0", "ask q kind nothing 0", "drop Q"):
            with self.subTest(line):
                self.assertEqual(session.run(line), ["line 1: invalid command"])
        self.assertEqual(session.run("answers\nundo\nundo\nundo"), ["q: points 8", "ok", "ok", "line 4: nothing to undo"])

    def test_names_of_one_and_of_twelve_characters(self):
        session = begun(CUBE)
        for name in ("a", "abcdefghijkl", "a23456789012", "end", "scheme"):
            self.assertEqual(session.run(f"ask {name} points s0\nanswer {name}"), ["ok", f"{name}: points 8"])
        for name in ("abcdefghijklm", "a234567890123", "9a", "A"):
            self.assertEqual(session.run(f"ask {name} points s0\nanswer {name}"), [
                "line 1: invalid command", "line 2: invalid command"])

    def test_names_that_are_words_of_commands(self):
        words = ("scheme", "product", "list", "remove", "ask", "drop", "answer", "answers", "print", "schemes", "questions",
                 "undo", "redo", "end", "points", "kind", "greatest", "bound", "words", "row")
        for word in words:
            session = begun(CUBE)
            self.assertEqual(session.run(text_of(
                *block_of(word, samples.PAIR), f"print {word}", f"ask {word} points {word}", f"answer {word}",
                f"product p s0 {word}", f"list s0 {word}", f"drop {word}", f"remove {word}", f"print {word}", f"answer {word}",
                f"product {word} s0 s0", f"ask {word} kind {word} 0 1", "answers", "schemes", "questions")), [
                    "ok", "ok", "scheme", "listed 2", "row 0 1", "row 1 0", "ok", f"{word}: points 2", "ok", "ok", "ok", "ok",
                    f"line 13: unknown name {word}", f"line 14: unknown name {word}", "ok", "ok", f"{word}: kind 1",
                    " ".join(["schemes:"] + sorted(["p", "s0", word])), f"questions: {word}"])

    def test_errors_of_commands(self):
        session = begun(CUBE, ("words", 1, 101), ("words", 1, 100), ("words", 20, 1000))
        session.run("ask q points s0")
        for line, answer in (
                ("product a x y", "unknown name x"), ("product a s0 y", "unknown name y"), ("product x x s0", "unknown name x"),
                ("list a y", "unknown name y"), ("list a q", "unknown name q"), ("list a s1", "invalid question"),
                ("list a s2", "invalid scheme"), ("product a s3 s0", "invalid scheme"), ("remove x", "unknown name x"),
                ("remove s0", "name in use s0"), ("ask q points x", "unknown name x"), ("ask q kind q 0 1", "unknown name q"),
                ("drop s0", "unknown name s0"), ("answer s0", "unknown name s0"), ("print q", "unknown name q"),
                ("redo", "nothing to redo")):
            with self.subTest(line):
                self.assertEqual(session.run("\n" + line + "\nschemes"), ["line 2: " + answer, "schemes: s0 s1 s2 s3"])
        self.assertEqual(session.library.question("q"), ("points", "s0", ()))
        self.assertEqual(Session().run("undo\nredo\nundo"), [
            "line 1: nothing to undo", "line 2: nothing to redo", "line 3: nothing to undo"])

    def test_answers_are_new_lists(self):
        session = begun(CUBE)
        session.run("schemes").append("x")
        self.assertEqual(session.run("schemes"), ["schemes: s0"])
        self.assertEqual({type(session.run(text)) for text in ("", "x", "schemes", "print s0")}, {list})


class Blocks(unittest.TestCase):
    def test_schemes_of_all_sorts(self):
        session = Session()
        for tree in samples.SMALL + samples.MANY_POINTS:
            with self.subTest(tree):
                self.assertEqual(session.run(text_of(*block_of("a", tree))), ["ok", "ok"])
                self.assertEqual(session.library.scheme("a"), tree)
                self.assertEqual(session.run("print a"), format_scheme(tree).split("\n"))

    def test_commands_in_a_block_are_taken(self):
        session = begun(CUBE)
        for line in ("undo", "schemes", "scheme b", "answers", "print s0", "end end", "end.", "END", "x"):
            self.assertEqual(session.run(text_of("scheme a", line, "words 3 2", "end", "schemes")), [
                "ok", "line 4: invalid notation 1", "schemes: s0"])

    def test_lines_without_words_are_not_taken(self):
        session = Session()
        self.assertEqual(session.run("scheme a\n\nlisted  2\n   \n row 0   1\n\n\nrow  1 0 \n\nend\nprint a"), [
            "ok", "ok", "scheme", "listed 2", "row 0 1", "row 1 0"])
        # The number is that among the lines that were taken.
        self.assertEqual(session.run("\n\nscheme b\n\n\nlisted 2\n\nrow 0 1\n\nrow 1 x\n\n\nend"), [
            "ok", "line 13: invalid notation 3"])

    def test_the_numbers_of_invalid_notation(self):
        session = Session()
        for lines, number in (
                ((), 1), (("words 3",), 1), (("scheme", "words 3 2"), 1), (("words 3 2", "words 3 2"), 2), (("product",), 2),
                (("product", "words 3 2"), 3), (("product", "words 3 2", "x", "y"), 3), (("listed 2", "row 0 1", "row"), 3),
                (("words 3 2", "end now"), 2), (("row 0",), 1), (("words 03 2",), 1), (("words 3 " + "1" * 62,), 1),
                (("words\t3 2",), 1), (("product", "listed 1", "row 0", "sets 4"), 4), (("words -3 2",), 1)):
            with self.subTest(lines):
                text = text_of("scheme a", *lines, "end", "schemes", "end")
                at = len(lines) + 2
                self.assertEqual(session.run(text), [
                    "ok", f"line {at}: invalid notation {number}", "schemes:", f"line {at + 2}: invalid command"])

    def test_what_is_no_scheme(self):
        session = begun(CUBE)
        for lines in (("words 0 2",), ("words 3 " + "1" * 61,), ("listed 2", "row 0 1"), ("listed 0",), ("sets 3 2",),
                      ("listed 3", "row 0 1 1", "row 1 0 2", "row 1 2 0"), ("product", "words 20 1000", "words 1 2")):
            with self.subTest(lines):
                text = text_of("scheme s0", *lines, "end", "print s0", "undo", "redo")
                self.assertEqual(session.run(text), [
                    "ok", f"line {len(lines) + 2}: invalid scheme", "scheme", "words 3 2", "ok", "ok"])

    def test_a_block_that_is_open_at_the_end_of_a_text(self):
        session = Session()
        self.assertEqual(session.run("scheme a"), ["ok"])
        for line in ("product", "", "  words 3 2", "listed 2\nrow 0 1", "row 1 0\n\n"):
            self.assertEqual(session.run(line), [])
        self.assertEqual(session.library.scheme_names(), [])
        self.assertEqual(session.run(" end \nprint a"), ["ok", "scheme", "product", "words 3 2", "listed 2", "row 0 1", "row 1 0"])
        self.assertEqual(session.run("end"), ["line 1: invalid command"])

    def test_a_block_is_closed_where_an_error_is_raised(self):
        session = Session()
        self.assertEqual(session.run("scheme a\nx\nend\nschemes"), ["ok", "line 3: invalid notation 1", "schemes:"])
        # Nothing of it is left for the next block.
        self.assertEqual(session.run("scheme a\nwords 3 2\nend\nprint a"), ["ok", "ok", "scheme", "words 3 2"])
        self.assertEqual(session.run("scheme b\nwords 0 2\nend\nscheme c\nend\nschemes"), [
            "ok", "line 3: invalid scheme", "ok", "line 5: invalid notation 1", "schemes: a"])

    def test_opening_a_block_changes_nothing_yet(self):
        session = begun(CUBE)
        session.run("product p s0 s0\nundo\nscheme a\nx\nend")
        self.assertEqual(session.run("redo\nschemes\nscheme s0\nsets 4 2\nend\nredo\nundo\nprint s0"), [
            "ok", "schemes: p s0", "ok", "ok", "line 6: nothing to redo", "ok", "scheme", "words 3 2"])

    def test_a_scheme_set_anew_while_a_question_is_about_it(self):
        session = begun(CUBE)
        self.assertEqual(session.run(text_of("ask q points s0", "answer q", *block_of("s0", ("sets", 4, 2)), "answer q")), [
            "ok", "q: points 8", "ok", "ok", "q: points 6"])


class AtRandom(unittest.TestCase):
    NAMES = ("a", "b", "c")

    def some_command(self, chance):
        """A command that changes something, and the method of a library and the arguments that do the same."""
        which = chance.choice(("product", "list", "remove", "ask", "ask", "drop", "undo", "redo"))
        one, two, three = [chance.choice(self.NAMES) for _ in range(3)]
        if which == "product":
            return f"product {one} {two} {three}", "product", (one, two, three)
        if which == "list":
            return f"list {one} {two}", "list_out", (one, two)
        if which == "remove":
            return f"remove {one}", "remove_scheme", (one,)
        if which == "ask":
            asked, many = chance.choice((("points", 0), ("kind", 2), ("greatest", 1), ("bound", 2)))
            numbers = [chance.randrange(5) for _ in range(many)]
            return " ".join(["ask", one, asked, two, *map(str, numbers)]), "ask", (one, asked, two, numbers)
        return (f"drop {one}", "drop", (one,)) if which == "drop" else (which, which, ())

    def done(self, library, which, arguments):
        """What the line of a command says, but for the number of the line."""
        try:
            getattr(library, which)(*arguments)
        except SchemeboundError as error:
            words = {"UnknownName": "unknown name", "NameInUse": "name in use", "InvalidScheme": "invalid scheme",
                     "InvalidQuestion": "invalid question", "NothingToUndo": "nothing to undo",
                     "NothingToRedo": "nothing to redo"}[error.__class__.__name__]
            return ": " + " ".join([words, *map(str, vars(error).values())])
        return None

    def test_sessions_do_what_libraries_do(self):
        chance = random.Random(64)
        seen = set()
        for _ in range(20):
            session, library = Session(), Library()
            for _ in range(60):
                lines, expected = [], []
                for _ in range(chance.randrange(1, 4)):
                    if chance.random() < 0.3:
                        name, tree = chance.choice(self.NAMES), chance.choice((CUBE, samples.PAIR, ("words", 1, 25), ("words", 8, 2)))
                        lines.extend(block_of(name, tree))
                        expected.extend(["ok", "ok"])
                        library.set_scheme(name, tree)
                    else:
                        line, which, arguments = self.some_command(chance)
                        lines.append(line)
                        fault = self.done(library, which, arguments)
                        expected.append("ok" if fault is None else f"line {len(lines)}{fault}")
                        seen.add((which, fault and fault.split(" ")[1]))
                lines.extend(["answers", "schemes", "questions"])
                expected.extend(f"{name}: " + " ".join(map(str, answer)) for name, answer in library.answers())
                expected.append(" ".join(["schemes:"] + library.scheme_names()))
                expected.append(" ".join(["questions:"] + library.question_names()))
                self.assertEqual(session.run(text_of(*lines)), expected)
            self.assertEqual((session.library.decided, session.library.kept), (library.decided, library.kept))
        self.assertLessEqual({
            ("product", None), ("product", "unknown"), ("list_out", None), ("list_out", "invalid"), ("remove_scheme", None),
            ("remove_scheme", "name"), ("ask", None), ("ask", "unknown"), ("drop", None), ("drop", "unknown"),
            ("undo", None), ("undo", "nothing"), ("redo", None), ("redo", "nothing")}, seen)


if __name__ == "__main__":
    unittest.main()
