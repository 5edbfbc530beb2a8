"""Schemes listed, and with other names for their points or their kinds."""

from schemebound.errors import InvalidQuestion
from schemebound.integers import are_integers
from schemebound.points import kinds_of, points_of, table_of
from schemebound.schemes import checked
from schemebound.tables import MOST_LISTED_KINDS, MOST_ROWS


def require_names(names, many):
    """Raise InvalidQuestion unless these are names of so many points or kinds."""
    if not are_integers(names) or sorted(names) != list(range(many)):
        raise InvalidQuestion("these are no names")


def listed(tree):
    """The listed tree of a scheme."""
    scheme = checked(tree)
    if points_of(scheme) > MOST_ROWS or kinds_of(scheme) > MOST_LISTED_KINDS:
        raise InvalidQuestion("the scheme is too great to be listed")
    return ("listed", table_of(scheme))


def same_kinds(one, other):
    """Whether two schemes, listed, are the same."""
    first = listed(one)
    return first == listed(other)


def undone(names):
    """The tuple of the names that undo others."""
    require_names(names, len(names))
    found = [0] * len(names)
    for at, name in enumerate(names):
        found[name] = at
    return tuple(found)


def renamed(tree, names):
    """The listed tree of a scheme in which two named points have the kind of the points."""
    rows = listed(tree)[1]
    require_names(names, len(rows))
    before = undone(names)
    return ("listed", tuple([tuple([rows[x][y] for y in before]) for x in before]))


def kinds_renamed(tree, names):
    """The listed tree of a scheme in which the same points have the named kind."""
    found = listed(tree)
    require_names(names, kinds_of(found))
    if names[0] != 0:
        raise InvalidQuestion("kind 0 keeps its name")
    return ("listed", tuple([tuple([names[kind] for kind in row]) for row in found[1]]))
