"""The judging of weights and of shares: what they show of the linear bound, without any search for it.

What the search for the bound needs as well stands here: so the judge takes nothing from the search.
"""

from schemebound.eigenvalues import multiplicities_of, rows_of
from schemebound.errors import InvalidQuestion
from schemebound.integers import are_integers
from schemebound.lots import require_fractions
from schemebound.numbers import part_valencies
from schemebound.points import kinds_of
from schemebound.ratios import dot, over_one, reduced
from schemebound.schemes import checked

MOST_BOUND_KINDS = 30


def checked_for_bounds(tree):
    """The tree as tuples and the rows of eigenvalues, if its scheme is one that has linear bounds."""
    scheme = checked(tree)
    if kinds_of(scheme) > MOST_BOUND_KINDS:
        raise InvalidQuestion("the scheme has too many kinds")
    return scheme, rows_of(scheme)


def require_allowed_kinds(tree, allowed):
    """Raise InvalidQuestion unless these are different kinds of the scheme from 1 on."""
    if not are_integers(allowed) or not all(1 <= kind < kinds_of(tree) for kind in allowed):
        raise InvalidQuestion("these kinds cannot be allowed")
    if len(set(allowed)) != len(allowed):
        raise InvalidQuestion("a kind is allowed twice")


def begin_right(tops, bottom):
    """Whether the first one of some fractions over one bottom is 1, and none is below 0."""
    return tops[0] == bottom and min(tops) >= 0


def shown_by(tree, rows, allowed, weights):
    """The fraction that weights show, or None if they are not right; all that is passed has been checked."""
    tops, bottom = over_one(weights)
    if not begin_right(tops, bottom):
        return None
    parts = [top * dimensions for top, dimensions in zip(tops, multiplicities_of(tree))]
    for kind in allowed:
        # The sum of point 84 is this one over the valency of the kind, and so has the same sign.
        if dot(parts, [row[kind] for row in rows]) > 0:
            return None
    return reduced(sum(parts), bottom)


def are_right(tree, rows, allowed, some):
    """Whether some fractions are right shares; all that is passed has been checked."""
    tops, bottom = over_one(some)
    if not begin_right(tops, bottom):
        return False
    if any(top != 0 for kind, top in enumerate(tops) if kind > 0 and kind not in allowed):
        return False
    per_pair, _ = over_one(list(zip(tops, part_valencies(tree))))
    # The sum of point 82 is this one times the multiplicity of the space, over what is above 0.
    return all(dot(per_pair, row) >= 0 for row in rows)


def weights_bound(tree, allowed, weights):
    """The fraction that right weights show, or None if they are not right."""
    scheme, rows = checked_for_bounds(tree)
    require_allowed_kinds(scheme, allowed)
    require_fractions(scheme, weights)
    return shown_by(scheme, rows, allowed, weights)


def are_shares(tree, allowed, shares):
    """Whether these are right shares."""
    scheme, rows = checked_for_bounds(tree)
    require_allowed_kinds(scheme, allowed)
    require_fractions(scheme, shares)
    return are_right(scheme, rows, allowed, shares)


def shows_bound(tree, allowed, weights, shares):
    """Whether weights and shares are right, and the shares add up to what the weights show."""
    scheme, rows = checked_for_bounds(tree)
    require_allowed_kinds(scheme, allowed)
    require_fractions(scheme, weights)
    require_fractions(scheme, shares)
    if not are_right(scheme, rows, allowed, shares):
        return False
    tops, bottom = over_one(shares)
    return shown_by(scheme, rows, allowed, weights) == reduced(sum(tops), bottom)
