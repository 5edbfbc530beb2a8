"""Lots, and papers about the linear bound, as texts."""

from schemebound.bounds import bound_of, solved, weights_of
from schemebound.errors import InvalidNotation, InvalidPaper
from schemebound.greatest import is_allowed
from schemebound.judging import checked_for_bounds, require_allowed_kinds, shown_by
from schemebound.lots import require_lot
from schemebound.notation import is_written_number
from schemebound.schemes import checked

MOST_TEXT_DIGITS = 2000


def numbers_behind(word, line, many):
    """The list of the numbers on a line of a word and so many numbers, or None if it is another line."""
    words = line.split(" ")
    if words[0] != word or len(words) != many + 1:
        return None
    if not all(is_written_number(number, MOST_TEXT_DIGITS) for number in words[1:]):
        return None
    return [int(number) for number in words[1:]]


def read_points(text):
    """The list of the points that the written form of a lot tells."""
    lines = text.split("\n")
    if lines[0] != "lot":
        raise InvalidNotation(1)
    points = []
    for at, line in enumerate(lines[1:], start=2):
        numbers = numbers_behind("point", line, 1)
        if numbers is None:
            raise InvalidNotation(at)
        points.append(numbers[0])
    return points


def lot_text(tree, lot):
    """The written form of a lot."""
    require_lot(checked(tree), lot)
    return "\n".join(["lot"] + [f"point {point}" for point in lot])


def parse_lot(tree, text):
    """The list of the points of the lot that a text writes."""
    scheme = checked(tree)
    points = read_points(text)
    require_lot(scheme, points)
    return points


def fraction_line(word, fraction):
    """The line of a word and a fraction."""
    return f"{word} {fraction[0]} {fraction[1]}"


def read_fraction(word, line, at):
    """The fraction, as it is written, on the line of a paper that begins with a word."""
    numbers = numbers_behind(word, line, 2)
    if numbers is None or numbers[1] == 0:
        raise InvalidPaper(at)
    return tuple(numbers)


def weights_text(tree, allowed):
    """The written form of the paper about the linear bound for allowed kinds."""
    scheme, tableau = solved(tree, allowed)
    lines = [fraction_line("weight", weight) for weight in weights_of(scheme, tableau)]
    return "\n".join([fraction_line("bound", bound_of(tableau))] + lines)


def parse_weights(text):
    """The tuple of the bound that a paper tells, and the list of its weights."""
    lines = text.split("\n")
    bound = read_fraction("bound", lines[0], 1)
    return bound, [read_fraction("weight", line, at) for at, line in enumerate(lines[1:], start=2)]


def is_right(tree, rows, allowed, paper):
    """Whether a paper is right: the tuple of its bound and the list of its weights; all else has been checked."""
    bound, weights = paper
    if len(weights) != len(rows):
        return False
    shown = shown_by(tree, rows, allowed, weights)
    return shown is not None and shown[0] * bound[1] <= bound[0] * shown[1]


def check_weights_text(tree, allowed, text):
    """Whether the paper that a text writes is right for a scheme and allowed kinds."""
    scheme, rows = checked_for_bounds(tree)
    require_allowed_kinds(scheme, allowed)
    return is_right(scheme, rows, allowed, parse_weights(text))


def check_greatest(tree, allowed, lot, text):
    """Whether a lot has allowed kinds alone, and a right paper shows that no such lot has more points."""
    fits = is_allowed(tree, allowed, lot)
    right = check_weights_text(tree, allowed, text)
    top, bottom = parse_weights(text)[0]
    return fits and right and top < (len(lot) + 1) * bottom
