"""Sessions: libraries that are used by lines of text."""

from schemebound.commands import WORDS_AHEAD_OF_NUMBERS, is_command, split_words
from schemebound.errors import (
    InvalidNotation, InvalidQuestion, InvalidScheme, NameInUse, NothingToRedo, NothingToUndo, UnknownName,
)
from schemebound.library import Library
from schemebound.notation import format_scheme, parse_scheme


def answer_line(name, answer):
    """The line that tells the answer of a question."""
    return f"{name}: " + " ".join(str(part) for part in answer)


def names_line(word, names):
    """The line that tells names behind a word."""
    return " ".join([f"{word}:", *names])


class Session:
    """A library, and the block that is open: the name of its scheme, None if there is none, and the lines taken."""

    def __init__(self):
        self.library = Library()
        self._block = None
        self._taken = []

    def run(self, text):
        """Do the lines of a text in order; returns the list of all lines that they answer."""
        told = []
        for at, line in enumerate(text.split("\n"), start=1):
            words = split_words(line)
            if words:
                told.extend(self._do_line(at, words))
        return told

    def _do_line(self, at, words):
        """Do the line of a number and of some words; returns the list of the lines that it answers."""
        if self._block is not None and words != ["end"]:
            self._taken.append(" ".join(words))
            return []
        if self._block is None and not is_command(words):
            return [f"line {at}: invalid command"]
        try:
            return self._do_words(words)
        except UnknownName as unknown:
            return [f"line {at}: unknown name {unknown.name}"]
        except NameInUse as used:
            return [f"line {at}: name in use {used.name}"]
        except InvalidNotation as fault:
            # Ahead of the lines that were taken the written form has one line more.
            return [f"line {at}: invalid notation {fault.line - 1}"]
        except InvalidScheme:
            return [f"line {at}: invalid scheme"]
        except InvalidQuestion:
            return [f"line {at}: invalid question"]
        except NothingToUndo:
            return [f"line {at}: nothing to undo"]
        except NothingToRedo:
            return [f"line {at}: nothing to redo"]

    def _do_words(self, words):
        """Do a command, or the end of the block that is open; returns the list of the lines that it answers."""
        if self._block is not None:
            self._close_block()
            return ["ok"]
        if words[0] == "print":
            return format_scheme(self.library.scheme(words[1])).split("\n")
        if words[0] == "answer":
            return [answer_line(words[1], self.library.answer(words[1]))]
        if words[0] == "answers":
            return [answer_line(name, answer) for name, answer in self.library.answers()]
        if words[0] == "schemes":
            return [names_line("schemes", self.library.scheme_names())]
        if words[0] == "questions":
            return [names_line("questions", self.library.question_names())]
        self._change(words)
        return ["ok"]

    def _close_block(self):
        """Close the block, and set the scheme that it writes."""
        name = self._block
        text = "\n".join(["scheme", *self._taken])
        # The block is closed also where the text or the tree is wrong.
        self._block = None
        self._taken = []
        self.library.set_scheme(name, parse_scheme(text))

    def _change(self, words):
        """Do a command that answers nothing but that it was done."""
        if words[0] == "scheme":
            self._block = words[1]
        elif words[0] == "product":
            self.library.product(words[1], words[2], words[3])
        elif words[0] == "list":
            self.library.list_out(words[1], words[2])
        elif words[0] == "remove":
            self.library.remove_scheme(words[1])
        elif words[0] == "ask":
            numbers = [int(word) for word in words[WORDS_AHEAD_OF_NUMBERS:]]
            self.library.ask(words[1], words[2], words[3], numbers)
        elif words[0] == "drop":
            self.library.drop(words[1])
        elif words[0] == "undo":
            self.library.undo()
        else:
            self.library.redo()
