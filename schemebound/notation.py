"""The written form of schemes."""

from schemebound.errors import InvalidNotation, InvalidScheme
from schemebound.schemes import checked

MOST_DIGITS = 61
NUMBERS_BEHIND = {"words": 2, "sets": 2, "listed": 1, "product": 0}


def number_words(numbers):
    """The numbers as words, separated by spaces."""
    return " ".join(str(number) for number in numbers)


def tree_lines(tree):
    """The list of the lines of a tree that has been checked."""
    if tree[0] == "product":
        return ["product"] + tree_lines(tree[1]) + tree_lines(tree[2])
    if tree[0] == "listed":
        rows = tree[1]
        return [f"listed {len(rows)}"] + ["row " + number_words(row) for row in rows]
    return [tree[0] + " " + number_words(tree[1:])]


def format_scheme(tree):
    """The written form of a scheme."""
    return "\n".join(["scheme"] + tree_lines(checked(tree)))


def is_written_number(word, most=MOST_DIGITS):
    """Whether a word is an integer as it is written, with so many digits at most."""
    if word == "0":
        return True
    # isdigit alone takes digits of other scripts, too.
    return len(word) <= most and word.isascii() and word.isdigit() and word[0] != "0"


def read_line(line, at):
    """The first word of a line and the list of the numbers behind it."""
    words = line.split(" ")
    if not all(is_written_number(word) for word in words[1:]):
        raise InvalidNotation(at)
    return words[0], [int(word) for word in words[1:]]


def read_parts(lines):
    """The parts that the lines write, in their order: a list of tuples of a sort, its numbers and its rows."""
    if lines[0] != "scheme":
        raise InvalidNotation(1)
    parts = []
    missing = 1
    for at, line in enumerate(lines[1:], start=2):
        word, numbers = read_line(line, at)
        if word == "row":
            if not numbers or not parts or parts[-1][0] != "listed":
                raise InvalidNotation(at)
            parts[-1][2].append(tuple(numbers))
        else:
            if missing == 0 or NUMBERS_BEHIND.get(word) != len(numbers):
                raise InvalidNotation(at)
            parts.append((word, numbers, []))
            missing += 1 if word == "product" else -1
    if missing > 0:
        raise InvalidNotation(len(lines) + 1)
    return parts


def leaf_tree(sort, numbers, rows):
    """The tree of a part that is no product."""
    if sort != "listed":
        return (sort, numbers[0], numbers[1])
    if len(rows) != numbers[0]:
        raise InvalidScheme("a listed part has another number of rows than is written ahead of them")
    return ("listed", tuple(rows))


def joined_tree(parts):
    """The tree of the parts as `read_parts` tells them.

    They are gone through from the last one on: so both trees of a product are made ahead of it,
    without recursion, which a text of many products would take too deep.
    """
    trees = []
    for sort, numbers, rows in reversed(parts):
        if sort == "product":
            first = trees.pop()
            second = trees.pop()
            trees.append(("product", first, second))
        else:
            trees.append(leaf_tree(sort, numbers, rows))
    return trees[0]


def parse_scheme(text):
    """The tree that the text writes."""
    return checked(joined_tree(read_parts(text.split("\n"))))
