"""Lots of points: their shares and dual shares, and how points see them."""

from schemebound.eigenvalues import multiplicities_of, rows_of
from schemebound.errors import InvalidLot, InvalidQuestion
from schemebound.integers import is_integer
from schemebound.numbers import part_valencies
from schemebound.points import kind_rows, kinds_of, points_of, require_point, require_points
from schemebound.ratios import are_fractions, dot, over_one, reduced
from schemebound.schemes import checked

MOST_LOT_POINTS = 500
MOST_OTHERS_POINTS = 1000


def require_lot(tree, lot):
    """Raise UnknownPoint or InvalidLot unless this is a lot of the scheme, which has been checked."""
    require_points(tree, lot)
    if not 1 <= len(lot) <= MOST_LOT_POINTS or len(set(lot)) != len(lot):
        raise InvalidLot("these points are no lot")


def require_ordered(tree):
    """Raise InvalidQuestion unless the scheme is one of words or of sets."""
    if tree[0] not in ("words", "sets"):
        raise InvalidQuestion("the scheme is neither of words nor of sets")


def require_size(tree, size):
    """Raise InvalidQuestion unless some points of the scheme can be so many."""
    if not is_integer(size) or not 1 <= size <= points_of(tree):
        raise InvalidQuestion("the scheme has no lot of this size")


def require_fractions(tree, values):
    """Raise InvalidQuestion unless these are fractions, one for each kind or space of the scheme."""
    if not are_fractions(values, kinds_of(tree)):
        raise InvalidQuestion("these are not as many fractions as kinds")


def counts_in(row, kinds):
    """The tuple of the numbers of times that each of the kinds stands in a row."""
    counts = [0] * kinds
    for kind in row:
        counts[kind] += 1
    return tuple(counts)


def counts_of(tree, lot):
    """The tuple of the numbers of ordered pairs of points of a lot that have each kind."""
    kinds = [kind for row in kind_rows(tree, lot, lot) for kind in row]
    return counts_in(kinds, kinds_of(tree))


def shares_of(tree, lot):
    """The tuple of the shares of a lot."""
    return tuple([reduced(count, len(lot)) for count in counts_of(tree, lot)])


def duals_of(tree, size, some):
    """The tuple of the dual shares that come of some shares."""
    # The multiplicity of the space and the size are the same for all kinds: they are left out of the sums.
    per_pair = [(share[0], share[1] * valency) for share, valency in zip(some, part_valencies(tree))]
    tops, bottom = over_one(per_pair)
    return tuple([
        reduced(dimensions * dot(tops, row), bottom * size)
        for dimensions, row in zip(multiplicities_of(tree), rows_of(tree))
    ])


def shares_back(tree, size, duals):
    """The tuple of the shares that come of dual shares."""
    tops, bottom = over_one(duals)
    rows = rows_of(tree)
    many = points_of(tree)
    return tuple([reduced(size * dot(tops, column), many * bottom) for column in zip(*rows)])


def silent_among(duals):
    """The ascending list of the spaces but space 0 whose dual shares are 0."""
    return [space for space, dual in enumerate(duals) if space > 0 and dual[0] == 0]


def pair_counts(tree, lot):
    """The tuple, kind by kind, of the number of ordered pairs of points of a lot that have the kind."""
    scheme = checked(tree)
    require_lot(scheme, lot)
    return counts_of(scheme, lot)


def shares(tree, lot):
    """The tuple of the shares of a lot."""
    scheme = checked(tree)
    require_lot(scheme, lot)
    return shares_of(scheme, lot)


def kinds_in(tree, lot):
    """The ascending list of the kinds above 0 of pairs of points of a lot."""
    return [kind for kind, count in enumerate(pair_counts(tree, lot)) if kind > 0 and count > 0]


def dual_shares(tree, lot):
    """The tuple of the dual shares of a lot."""
    scheme = checked(tree)
    require_lot(scheme, lot)
    return duals_of(scheme, len(lot), shares_of(scheme, lot))


def silent_spaces(tree, lot):
    """The ascending list of the silent spaces of a lot."""
    return silent_among(dual_shares(tree, lot))


def strength(tree, lot):
    """The strength of a lot of words or of sets."""
    scheme = checked(tree)
    require_lot(scheme, lot)
    require_ordered(scheme)
    reached = 0
    for space in silent_spaces(scheme, lot):
        if space == reached + 1:
            reached = space
    return reached


def least_kind(tree, lot):
    """The least kind above 0 of pairs of points of a lot of words or of sets, or None for one point."""
    scheme = checked(tree)
    require_lot(scheme, lot)
    require_ordered(scheme)
    return min(kinds_in(scheme, lot), default=None)


def duals_from(tree, size, some):
    """The tuple of the dual shares of a lot of a size with some shares, whether or not there is such a lot."""
    scheme = checked(tree)
    require_size(scheme, size)
    require_fractions(scheme, some)
    return duals_of(scheme, size, some)


def shares_from(tree, size, duals):
    """The tuple of the shares of a lot of a size with some dual shares, whether or not there is such a lot."""
    scheme = checked(tree)
    require_size(scheme, size)
    require_fractions(scheme, duals)
    return shares_back(scheme, size, duals)


def seen_from(tree, lot, point):
    """The tuple of the numbers by which a point sees a lot."""
    scheme = checked(tree)
    require_lot(scheme, lot)
    require_point(scheme, point)
    return counts_in(kind_rows(scheme, [point], lot)[0], kinds_of(scheme))


def is_even(tree, lot):
    """Whether each point of a lot sees it by the same numbers."""
    scheme = checked(tree)
    require_lot(scheme, lot)
    kinds = kinds_of(scheme)
    return len({counts_in(row, kinds) for row in kind_rows(scheme, lot, lot)}) == 1


def others_of(tree, lot):
    """The ascending tuple of the points that are not in a lot, for schemes of at most 1000 points."""
    scheme = checked(tree)
    require_lot(scheme, lot)
    many = points_of(scheme)
    if many > MOST_OTHERS_POINTS:
        raise InvalidQuestion("the scheme has too many points")
    inside = set(lot)
    return tuple([point for point in range(many) if point not in inside])


def shares_of_others(tree, size, some):
    """The tuple of the shares of all other points, for a lot of a size with some shares."""
    scheme = checked(tree)
    require_size(scheme, size)
    left = points_of(scheme) - size
    if left == 0:
        raise InvalidQuestion("there are no other points")
    require_fractions(scheme, some)
    duals = duals_of(scheme, size, some)
    turned = [reduced(top * size * size, bottom * left * left) for top, bottom in duals[1:]]
    return shares_back(scheme, left, [(1, 1), *turned])
