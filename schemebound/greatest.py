"""Lots of which each two points have an allowed kind: all of them, and the greatest ones, by an exact search."""

from schemebound.bounds import greatest_size
from schemebound.errors import InvalidLot, InvalidQuestion, TooMany
from schemebound.integers import is_integer
from schemebound.points import kind_rows, kinds_of, points_of, require_points, table_of
from schemebound.schemes import checked

MOST_SEARCHED_POINTS = 100
POINTS_AT_ONCE = 200


def checked_small(tree):
    """The tree as tuples, if all points of its scheme can be looked at."""
    scheme = checked(tree)
    if points_of(scheme) > MOST_SEARCHED_POINTS:
        raise InvalidQuestion("the scheme has too many points to look at all of them")
    return scheme


def require_allowed(tree, kinds):
    """Raise InvalidQuestion unless all of these are kinds of the scheme but kind 0."""
    for kind in kinds:
        if not is_integer(kind) or not 1 <= kind < kinds_of(tree):
            raise InvalidQuestion("no such kind can be allowed")


def require_different(tree, points):
    """Raise UnknownPoint for what is no point of the scheme, InvalidLot for a point that stands twice."""
    require_points(tree, points)
    if len(set(points)) != len(points):
        raise InvalidLot("a point stands twice")


def fit_masks(tree, kinds):
    """The list, for each point, of the points that have an allowed kind with it, as the bits of an integer."""
    bits = [[1 << y if kind in kinds else 0 for y, kind in enumerate(row)] for row in table_of(tree)]
    return [sum(row) for row in bits]


def points_in(mask):
    """The ascending list of the points whose bits an integer has."""
    return [point for point in range(mask.bit_length()) if mask >> point & 1]


def common_mask(masks, points):
    """The points that fit all of some points, as the bits of an integer."""
    common = (1 << len(masks)) - 1
    for point in points:
        common &= masks[point]
    return common


def is_allowed(tree, kinds, points):
    """Whether each two points of a lot have an allowed kind."""
    scheme = checked(tree)
    require_allowed(scheme, kinds)
    require_different(scheme, points)
    # A lot may have any number of points: a table of the kinds of all of them can be too great.
    for start in range(0, len(points), POINTS_AT_ONCE):
        ahead = points[:start + POINTS_AT_ONCE]
        for at, row in enumerate(kind_rows(scheme, ahead[start:], ahead), start=start):
            if not all(kind in kinds for kind in row[:at]):
                return False
    return True


def fitting(tree, kinds, points):
    """The ascending list of the points that have an allowed kind with each point of a lot."""
    scheme = checked_small(tree)
    require_allowed(scheme, kinds)
    require_different(scheme, points)
    return points_in(common_mask(fit_masks(scheme, kinds), points))


def grown(tree, kinds, points):
    """The ascending list of the points of a lot and of those that are taken in one after another."""
    scheme = checked_small(tree)
    require_allowed(scheme, kinds)
    require_different(scheme, points)
    masks = fit_masks(scheme, kinds)
    common = common_mask(masks, points)
    inside = list(points)
    for point, mask in enumerate(masks):
        # No point fits itself, so none of the lot is taken in again.
        if common >> point & 1:
            inside.append(point)
            common &= mask
    return sorted(inside)


def next_level(masks, level):
    """The allowed lots of one point more than those of a level, each with the greater points that fit it."""
    following = []
    for lot, later in level:
        for at, point in enumerate(later):
            still = [other for other in later[at + 1:] if masks[point] >> other & 1]
            following.append(([*lot, point], still))
    return following


def gone_through(tree, kinds, most, limit):
    """The numbers of the allowed lots of no point, of one, and so on up to `most`, and the list of those of `most`.

    TooMany is raised ahead of writing lots that are too many.
    """
    masks = fit_masks(tree, kinds)
    level = [([], list(range(len(masks))))]
    counts = [1]
    while level and len(counts) <= most and sum(counts) <= limit:
        counts.append(sum([len(later) for _, later in level]))
        if sum(counts) <= limit:
            level = next_level(masks, level)
    if sum(counts) > limit:
        raise TooMany(limit)
    return counts, [lot for lot, _ in level]


def lots(tree, kinds, many, *, limit=20000):
    """The list of all allowed lots of so many points, in ascending order."""
    scheme = checked_small(tree)
    require_allowed(scheme, kinds)
    if many < 0:
        raise InvalidQuestion("no lot has fewer points than none")
    return gone_through(scheme, kinds, many, limit)[1]


def lot_counts(tree, kinds, *, limit=200000):
    """The list of the numbers of allowed lots of no point, of one, and so on up to the greatest ones."""
    scheme = checked_small(tree)
    require_allowed(scheme, kinds)
    counts = gone_through(scheme, kinds, points_of(scheme), limit)[0]
    return [count for count in counts if count > 0]


def looks_alike(tree):
    """Whether a scheme is made of words and sets alone: then some renaming of the points that keeps all kinds takes
    any point to any other one.
    """
    if tree[0] == "product":
        return looks_alike(tree[1]) and looks_alike(tree[2])
    return tree[0] in ("words", "sets")


def most_points(tree, kinds):
    """A number of points that no allowed lot exceeds: the linear bound, where there is one."""
    try:
        return greatest_size(tree, sorted(set(kinds)))
    except InvalidQuestion:
        return points_of(tree)


class Search:
    """A search for the first one of the greatest lots, which goes through lots in ascending order."""

    def __init__(self, masks, most, limit):
        self.masks = masks
        self.most = most
        self.limit = limit
        self.visited = 0
        self.best = []

    def most_beside(self, mask):
        """A number that no allowed lot of these points exceeds.

        They are parted into lots without two points that fit: an allowed lot has at most one point of each.
        """
        parts = 0
        rest = mask
        while rest:
            parts += 1
            unfit = rest
            while unfit:
                point = unfit.bit_length() - 1
                rest &= ~(1 << point)
                unfit &= rest & ~self.masks[point]
        return parts

    def visit(self, lot, mask):
        """Look at a lot and at those that begin with it and go on with greater points out of the mask."""
        self.visited += 1
        if self.visited > self.limit:
            raise TooMany(self.limit)
        if len(lot) > len(self.best):
            self.best = lot
        rest = mask
        for point in points_in(mask):
            # Only a lot of more points counts: so the first one of the greatest stays.
            if len(self.best) == self.most or len(lot) + self.most_beside(rest) <= len(self.best):
                return
            rest &= ~(1 << point)
            self.visit([*lot, point], rest & self.masks[point])


def greatest(tree, kinds, *, limit=200000):
    """The first one, in ascending order, of the allowed lots with the most points."""
    scheme = checked_small(tree)
    require_allowed(scheme, kinds)
    masks = fit_masks(scheme, kinds)
    search = Search(masks, most_points(scheme, kinds), limit)
    if looks_alike(scheme):
        # Some greatest lot has the point 0 then, and such a lot comes ahead of those without it.
        search.visit([0], masks[0])
    else:
        search.visit([], (1 << len(masks)) - 1)
    return search.best
