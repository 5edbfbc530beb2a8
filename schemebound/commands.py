"""Lines of words, and which of them are commands."""

from schemebound.names import is_name
from schemebound.notation import is_written_number
from schemebound.questions import is_question

# How many names stand behind the first word of each command but `ask`.
NAMES_BEHIND = {
    "scheme": 1, "product": 3, "list": 2, "remove": 1, "drop": 1, "answer": 1, "answers": 0, "print": 1, "schemes": 0,
    "questions": 0, "undo": 0, "redo": 0,
}
WORDS_AHEAD_OF_NUMBERS = 4


def split_words(line):
    """The list of the words of a line."""
    # Without an argument, `split` would part the line at tabs and the like, too.
    return [word for word in line.split(" ") if word]


def is_asking(words):
    """Whether the words, the first of which is `ask`, are a command."""
    many = len(words) - WORDS_AHEAD_OF_NUMBERS
    if many < 0 or not is_question(words[2], many):
        return False
    numbers = words[WORDS_AHEAD_OF_NUMBERS:]
    return is_name(words[1]) and is_name(words[3]) and all(is_written_number(number) for number in numbers)


def is_command(words):
    """Whether the words, a list that is not empty, are a command."""
    if words[0] == "ask":
        return is_asking(words)
    return NAMES_BEHIND.get(words[0]) == len(words) - 1 and all(is_name(word) for word in words[1:])
