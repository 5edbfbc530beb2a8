"""The valencies of kinds, and the numbers of points between two points."""

from schemebound.errors import InvalidQuestion
from schemebound.integers import choose, is_integer, power
from schemebound.points import kinds_of
from schemebound.schemes import checked
from schemebound.tables import MOST_LISTED_KINDS, way_counts


def require_kind(tree, kind):
    """Raise InvalidQuestion unless the scheme, which has been checked, has the kind."""
    if not is_integer(kind) or not 0 <= kind < kinds_of(tree):
        raise InvalidQuestion("the scheme has no such kind")


def part_valencies(tree):
    """The tuple of the valencies of the kinds of a tree that has been checked."""
    sort = tree[0]
    if sort == "product":
        lower = part_valencies(tree[2])
        return tuple([one * other for one in part_valencies(tree[1]) for other in lower])
    kinds = range(kinds_of(tree))
    if sort == "words":
        many, base = tree[1:]
        return tuple([choose(many, i) * power(base - 1, i) for i in kinds])
    if sort == "sets":
        many, size = tree[1:]
        return tuple([choose(size, i) * choose(many - size, i) for i in kinds])
    return tuple([tree[1][0].count(i) for i in kinds])


def word_ways(many, base, i, j, k):
    """The number for three kinds of words."""
    total = 0
    for t in range(many - k + 1):
        # Of the k places at which two words are unlike, a third word agrees with the second one at a of them,
        # with the first one at b, and with neither at c.
        a = k - j + t
        b = k - i + t
        c = k - a - b
        if a >= 0 and b >= 0 and c >= 0:
            beside = choose(many - k, t) * power(base - 1, t)
            total += beside * choose(k, a) * choose(k - a, b) * power(base - 2, c)
    return total


def set_ways(many, size, i, j, k):
    """The number for three kinds of sets."""
    total = 0
    for s in range(size - k + 1):
        inside = choose(size - k, s) * choose(k, size - i - s) * choose(k, size - j - s)
        total += inside * choose(many - size - k, i + j + s - size)
    return total


def listed_ways(rows, i, j, k):
    """The number for three kinds of a listed scheme."""
    # Each kind occurs at each point: the point 0 has one of this kind, too.
    counts = way_counts(rows[0], rows[rows[0].index(k)])
    return counts[i * MOST_LISTED_KINDS + j]


def part_ways(tree, i, j, k):
    """The number for three kinds of a tree that has been checked."""
    sort = tree[0]
    if sort == "words":
        return word_ways(tree[1], tree[2], i, j, k)
    if sort == "sets":
        return set_ways(tree[1], tree[2], i, j, k)
    if sort == "listed":
        return listed_ways(tree[1], i, j, k)
    kinds = kinds_of(tree[2])
    first = part_ways(tree[1], i // kinds, j // kinds, k // kinds)
    return first * part_ways(tree[2], i % kinds, j % kinds, k % kinds)


def part_numbers(tree, k):
    """The table of the numbers for all i and j and one k, of a tree that has been checked."""
    kinds = kinds_of(tree)
    if tree[0] != "product":
        return tuple([tuple([part_ways(tree, i, j, k) for j in range(kinds)]) for i in range(kinds)])
    lower_kinds = kinds_of(tree[2])
    lower = part_numbers(tree[2], k % lower_kinds)
    return tuple([
        tuple([one * other for one in row for other in beside])
        for row in part_numbers(tree[1], k // lower_kinds) for beside in lower
    ])


def all_numbers(tree):
    """The list, for each k, of the tables of the numbers for i, j and k, of a tree that has been checked."""
    return [part_numbers(tree, k) for k in range(kinds_of(tree))]


def valencies(tree):
    """The tuple of the valencies of all kinds."""
    return part_valencies(checked(tree))


def ways_for(tree, i, j, k):
    """The number for the kinds i, j and k."""
    scheme = checked(tree)
    for kind in (i, j, k):
        require_kind(scheme, kind)
    return part_ways(scheme, i, j, k)


def numbers_of(tree, k):
    """The tuple, for each kind i, of the tuples, for each kind j, of the numbers for i, j and k."""
    scheme = checked(tree)
    require_kind(scheme, k)
    return part_numbers(scheme, k)
