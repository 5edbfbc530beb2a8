"""Points and kinds of trees that have been checked, with nothing looked at again."""

from schemebound.errors import UnknownPoint
from schemebound.integers import choose, is_integer, power


def points_of(tree):
    """The number of points."""
    sort = tree[0]
    if sort == "words":
        return power(tree[2], tree[1])
    if sort == "sets":
        return choose(tree[1], tree[2])
    if sort == "listed":
        return len(tree[1])
    return points_of(tree[1]) * points_of(tree[2])


def kinds_of(tree):
    """The number of kinds."""
    sort = tree[0]
    if sort == "words":
        return tree[1] + 1
    if sort == "sets":
        return tree[2] + 1
    if sort == "listed":
        # Each kind occurs at each point, so one row shows them all.
        return max(tree[1][0]) + 1
    return kinds_of(tree[1]) * kinds_of(tree[2])


def require_points(tree, points):
    """Raise UnknownPoint with the first of the points that the scheme does not have."""
    many = points_of(tree)
    for point in points:
        if not is_integer(point) or not 0 <= point < many:
            raise UnknownPoint(point)


def require_point(tree, point):
    """Raise UnknownPoint unless the scheme has the point."""
    require_points(tree, [point])


def figures_at(many, base, point):
    """The figures of a point of words, the highest one first."""
    figures = []
    rest = point
    for _ in range(many):
        rest, figure = divmod(rest, base)
        figures.append(figure)
    return tuple(figures[::-1])


def place_of_figures(base, figures):
    """The point of a word with these figures."""
    point = 0
    for figure in figures:
        point = point * base + figure
    return point


def members_at(many, size, point):
    """The members, ascending, of a point of sets of a size out of many."""
    members = []
    rest = point
    missing = size
    for member in range(many):
        with_member = choose(many - 1 - member, missing - 1)
        if rest < with_member:
            members.append(member)
            missing -= 1
        else:
            rest -= with_member
    return tuple(members)


def place_of_members(many, members):
    """The point of a set with these members, ascending, out of many."""
    size = len(members)
    behind = 0
    for at, member in enumerate(members):
        # Sets behind this one that first differ from it at this member.
        behind += choose(many - 1 - member, size - at)
    return choose(many, size) - 1 - behind


def told_at(tree, point):
    """The figures of a point of words, or the members of a point of sets."""
    if tree[0] == "words":
        return figures_at(tree[1], tree[2], point)
    return members_at(tree[1], tree[2], point)


def kind_of_told(tree, one, other):
    """The kind of two words told by their figures, or of two sets told by their members."""
    if tree[0] == "words":
        return len([1 for figure, beside in zip(one, other) if figure != beside])
    return tree[2] - len(set(one) & set(other))


def kind_rows(tree, some, others):
    """The list, for each one of some points, of the list of its kinds with other points."""
    sort = tree[0]
    if sort == "listed":
        return [[tree[1][x][y] for y in others] for x in some]
    if sort == "product":
        size = points_of(tree[2])
        kinds = kinds_of(tree[2])
        upper = kind_rows(tree[1], [x // size for x in some], [y // size for y in others])
        lower = kind_rows(tree[2], [x % size for x in some], [y % size for y in others])
        return [[i * kinds + j for i, j in zip(row, beside)] for row, beside in zip(upper, lower)]
    # Each point is told once, not once for each pair: to tell it takes longer than to compare it.
    told = [told_at(tree, y) for y in others]
    return [[kind_of_told(tree, one, other) for other in told] for one in [told_at(tree, x) for x in some]]


def kind_between(tree, x, y):
    """The kind of two points."""
    return kind_rows(tree, [x], [y])[0][0]


def table_of(tree):
    """The tuple of the rows of kinds of all points."""
    points = list(range(points_of(tree)))
    return tuple([tuple(row) for row in kind_rows(tree, points, points)])
