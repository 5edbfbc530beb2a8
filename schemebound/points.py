"""Points and kinds of trees that have been checked, with nothing looked at again."""

from schemebound.errors import UnknownPoint
from schemebound.integers import choose, is_integer, power


def points_of(tree):
    """The number of points."""
    sort = tree[0]
    if sort == "words":
        return power(tree[2], tree[1])
    if sort == "sets":
        return choose(tree[1], tree[2])
    if sort == "listed":
        return len(tree[1])
    return points_of(tree[1]) * points_of(tree[2])


def kinds_of(tree):
    """The number of kinds."""
    sort = tree[0]
    if sort == "words":
        return tree[1] + 1
    if sort == "sets":
        return tree[2] + 1
    if sort == "listed":
        # Each kind occurs at each point, so one row shows them all.
        return max(tree[1][0]) + 1
    return kinds_of(tree[1]) * kinds_of(tree[2])


def require_point(tree, point):
    """Raise UnknownPoint unless the scheme has the point."""
    if not is_integer(point) or not 0 <= point < points_of(tree):
        raise UnknownPoint(point)


def figures_at(many, base, point):
    """The figures of a point of words, the highest one first."""
    figures = []
    rest = point
    for _ in range(many):
        rest, figure = divmod(rest, base)
        figures.append(figure)
    return tuple(figures[::-1])


def place_of_figures(base, figures):
    """The point of a word with these figures."""
    point = 0
    for figure in figures:
        point = point * base + figure
    return point


def members_at(many, size, point):
    """The members, ascending, of a point of sets of a size out of many."""
    members = []
    rest = point
    missing = size
    for member in range(many):
        with_member = choose(many - 1 - member, missing - 1)
        if rest < with_member:
            members.append(member)
            missing -= 1
        else:
            rest -= with_member
    return tuple(members)


def place_of_members(many, members):
    """The point of a set with these members, ascending, out of many."""
    size = len(members)
    behind = 0
    for at, member in enumerate(members):
        # Sets behind this one that first differ from it at this member.
        behind += choose(many - 1 - member, size - at)
    return choose(many, size) - 1 - behind


def told_at(tree, point):
    """The figures of a point of words, or the members of a point of sets."""
    if tree[0] == "words":
        return figures_at(tree[1], tree[2], point)
    return members_at(tree[1], tree[2], point)


def kind_of_told(tree, one, other):
    """The kind of two words told by their figures, or of two sets told by their members."""
    if tree[0] == "words":
        return sum(1 for figure, beside in zip(one, other) if figure != beside)
    return tree[2] - len(set(one) & set(other))


def kind_between(tree, x, y):
    """The kind of two points."""
    sort = tree[0]
    if sort == "listed":
        return tree[1][x][y]
    if sort == "product":
        size = points_of(tree[2])
        first = kind_between(tree[1], x // size, y // size)
        return first * kinds_of(tree[2]) + kind_between(tree[2], x % size, y % size)
    return kind_of_told(tree, told_at(tree, x), told_at(tree, y))


def table_of(tree):
    """The tuple of the rows of kinds of all points."""
    sort = tree[0]
    if sort == "listed":
        return tree[1]
    if sort == "product":
        kinds = kinds_of(tree[2])
        lower = table_of(tree[2])
        return tuple([
            tuple([i * kinds + j for i in row for j in beside])
            for row in table_of(tree[1]) for beside in lower
        ])
    told = [told_at(tree, point) for point in range(points_of(tree))]
    return tuple([tuple([kind_of_told(tree, one, other) for other in told]) for one in told])
