"""Designs of words and of sets, and the room that a lot leaves beside it."""

from schemebound.errors import InvalidQuestion, TooMany
from schemebound.integers import choose, is_integer, power
from schemebound.lots import duals_of, kinds_in, require_lot, require_ordered, shares_of
from schemebound.points import kinds_of, points_of
from schemebound.schemes import checked


def patterns_of(tree, strength):
    """The number of patterns, and the number of those that a point has, for a tree that has been checked."""
    if tree[0] == "words":
        places = choose(tree[1], strength)
        return places * power(tree[2], strength), places
    return choose(tree[1], strength), choose(tree[2], strength)


def design_number(tree, lot, strength, *, limit=20000):
    """The number of points of a lot that have each pattern, or None if it is not the same for all patterns."""
    scheme = checked(tree)
    require_lot(scheme, lot)
    require_ordered(scheme)
    if not is_integer(strength) or not 0 <= strength < kinds_of(scheme):
        raise InvalidQuestion("there are no designs of this strength")
    patterns, of_a_point = patterns_of(scheme, strength)
    if patterns > limit:
        raise TooMany(limit)
    # All points together have so many patterns: at first this shows it for most lots without a look at their pairs.
    number, left = divmod(len(lot) * of_a_point, patterns)
    if left != 0:
        return None
    # It is a design exactly if it has no dual shares in the spaces from 1 to the strength (point 99).
    duals = duals_of(scheme, len(lot), shares_of(scheme, lot))
    return number if all(dual[0] == 0 for dual in duals[1:strength + 1]) else None


def is_design(tree, lot, strength, *, limit=20000):
    """Whether a lot is a design of a strength."""
    return design_number(tree, lot, strength, limit=limit) is not None


def are_apart(tree, one, other):
    """Whether no kind above 0 occurs in both of two lots."""
    first = kinds_in(tree, one)
    return not any(kind in first for kind in kinds_in(tree, other))


def room_beside(tree, lot):
    """The number of points over the size of a lot, rounded down."""
    scheme = checked(tree)
    require_lot(scheme, lot)
    return points_of(scheme) // len(lot)
