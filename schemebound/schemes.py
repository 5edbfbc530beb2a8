"""Schemes told by trees: which trees tell one, and its points and kinds."""

from schemebound.errors import InvalidQuestion, InvalidScheme
from schemebound.integers import are_integers
from schemebound.points import (
    figures_at, kind_between, kinds_of, members_at, place_of_figures, place_of_members, points_of, require_point,
    table_of,
)
from schemebound.tables import table_fault

MOST_PARTS = 8
MOST_KINDS = 60
MOST_POINTS = 10 ** 60
MOST_PLACES = 40
LEAST_BASE = 2
MOST_BASE = 1000
MOST_CHOICES = 80
MOST_TABLE_POINTS = 100


def is_part(part):
    """Whether this is a tree of some sort, as far as it shows without the parts of a product."""
    if not isinstance(part, tuple) or not part:
        return False
    sort = part[0]
    if sort == "listed":
        return len(part) == 2 and table_fault(part[1]) is None
    if len(part) != 3:
        return False
    if sort == "words":
        return are_integers(part[1:]) and 1 <= part[1] <= MOST_PLACES and LEAST_BASE <= part[2] <= MOST_BASE
    if sort == "sets":
        return are_integers(part[1:]) and 1 <= part[2] and 2 * part[2] <= part[1] <= MOST_CHOICES
    return sort == "product"


def parts_of(tree):
    """The list of all parts of a tree, or None if one of them is wrong, or if there are too many.

    It goes without recursion and stops at the first part too many: a caller may write a tree of any depth.
    """
    parts = []
    waiting = [tree]
    while waiting:
        part = waiting.pop()
        if len(parts) == MOST_PARTS or not is_part(part):
            return None
        parts.append(part)
        if part[0] == "product":
            waiting.extend(part[1:])
    return parts


def is_scheme(tree):
    """Whether the tree is that of a scheme."""
    parts = parts_of(tree)
    if parts is None:
        return False
    return points_of(tree) <= MOST_POINTS and kinds_of(tree) <= MOST_KINDS


def as_tuples(tree):
    """The tree with tuples for the lists in it."""
    if tree[0] == "listed":
        return ("listed", tuple([tuple(row) for row in tree[1]]))
    if tree[0] == "product":
        return ("product", as_tuples(tree[1]), as_tuples(tree[2]))
    return tree


def checked(tree):
    """The tree as tuples; raises InvalidScheme if it is that of no scheme."""
    if not is_scheme(tree):
        raise InvalidScheme("this is no tree of a scheme")
    return as_tuples(tree)


def checked_sort(tree, sort):
    """The tree as tuples, if it is of this sort."""
    scheme = checked(tree)
    if scheme[0] != sort:
        raise InvalidQuestion("the scheme is of another sort")
    return scheme


def point_count(tree):
    """The number of points."""
    return points_of(checked(tree))


def kind_count(tree):
    """The number of kinds, kind 0 among them."""
    return kinds_of(checked(tree))


def part_count(tree):
    """The number of parts, the whole tree among them."""
    return len(parts_of(checked(tree)))


def check_point(tree, point):
    """None; raises UnknownPoint if the scheme does not have the point."""
    require_point(checked(tree), point)


def kind_of(tree, x, y):
    """The kind of two points."""
    scheme = checked(tree)
    require_point(scheme, x)
    require_point(scheme, y)
    return kind_between(scheme, x, y)


def kind_table(tree):
    """The tuple of the rows of kinds, for at most 100 points."""
    scheme = checked(tree)
    if points_of(scheme) > MOST_TABLE_POINTS:
        raise InvalidQuestion("the scheme has too many points for a table")
    return table_of(scheme)


def word_at(tree, point):
    """The tuple of the figures of a point of words."""
    scheme = checked_sort(tree, "words")
    require_point(scheme, point)
    return figures_at(scheme[1], scheme[2], point)


def set_at(tree, point):
    """The ascending tuple of the members of a point of sets."""
    scheme = checked_sort(tree, "sets")
    require_point(scheme, point)
    return members_at(scheme[1], scheme[2], point)


def point_of_word(tree, word):
    """The point of words with these figures."""
    many, base = checked_sort(tree, "words")[1:]
    if not are_integers(word) or len(word) != many or not all(0 <= figure < base for figure in word):
        raise InvalidQuestion("this is no word of the scheme")
    return place_of_figures(base, word)


def point_of_set(tree, members):
    """The point of sets with these members, in whatever order."""
    many, size = checked_sort(tree, "sets")[1:]
    if not are_integers(members) or len(members) != size or len(set(members)) != size:
        raise InvalidQuestion("this is no set of the scheme")
    if not all(0 <= member < many for member in members):
        raise InvalidQuestion("this is no set of the scheme")
    return place_of_members(many, sorted(members))
