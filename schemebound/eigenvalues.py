"""The spaces of schemes: eigenvalues, multiplicities and dual eigenvalues."""

from schemebound.errors import InvalidQuestion
from schemebound.integers import are_integers, choose, power
from schemebound.numbers import all_numbers, part_valencies, require_kind
from schemebound.points import kinds_of, points_of
from schemebound.ratios import dot, over_one, reduced
from schemebound.schemes import checked
from schemebound.spectra import listed_rows

MOST_CHECKED_KINDS = 30


def convolved(one, other):
    """The coefficients of the product of two polynomials, told by theirs."""
    found = [0] * (len(one) + len(other) - 1)
    for s, first in enumerate(one):
        for t, second in enumerate(other):
            found[s + t] += first * second
    return found


def signed_choices(many):
    """The list of the numbers of ways to choose none of many, one, and so on, each second one below 0."""
    return [choose(many, s) if s % 2 == 0 else -choose(many, s) for s in range(many + 1)]


def row_of(tree, space):
    """The tuple of the eigenvalues of all kinds on a space of a tree that has been checked."""
    sort = tree[0]
    if sort == "product":
        kinds = kinds_of(tree[2])
        lower = row_of(tree[2], space % kinds)
        return tuple([first * second for first in row_of(tree[1], space // kinds) for second in lower])
    if sort == "listed":
        return listed_rows(tree)[space]
    if sort == "words":
        many, base = tree[1:]
        beside = [choose(many - space, t) * power(base - 1, t) for t in range(many - space + 1)]
    else:
        many, size = tree[1:]
        beside = [choose(size - space, t) * choose(many - size - space, t) for t in range(size - space + 1)]
    return tuple(convolved(signed_choices(space), beside))


def rows_of(tree):
    """The list of the rows of eigenvalues of all spaces of a tree that has been checked."""
    if tree[0] == "listed":
        return listed_rows(tree)
    if tree[0] == "product":
        lower = rows_of(tree[2])
        return [
            tuple([first * second for first in row for second in beside])
            for row in rows_of(tree[1]) for beside in lower
        ]
    return [row_of(tree, space) for space in range(kinds_of(tree))]


def listed_multiplicities(tree):
    """The multiplicities of a listed scheme, by the sums of the squares of its eigenvalues (point 36)."""
    found = []
    for row in listed_rows(tree):
        tops, bottom = over_one([(number * number, valency) for number, valency in zip(row, part_valencies(tree))])
        found.append(points_of(tree) * bottom // sum(tops))
    return tuple(found)


def multiplicities_of(tree):
    """The tuple of the multiplicities of a tree that has been checked."""
    sort = tree[0]
    if sort == "product":
        lower = multiplicities_of(tree[2])
        return tuple([first * second for first in multiplicities_of(tree[1]) for second in lower])
    if sort == "listed":
        return listed_multiplicities(tree)
    if sort == "words":
        return part_valencies(tree)
    return tuple([choose(tree[1], j) - choose(tree[1], j - 1) for j in range(kinds_of(tree))])


def eigenvalues(tree):
    """The list of the spaces, each the tuple of the eigenvalues of all kinds."""
    return rows_of(checked(tree))


def eigenvalue(tree, space, kind):
    """The eigenvalue of a kind on a space."""
    scheme = checked(tree)
    # There are as many spaces as kinds.
    require_kind(scheme, space)
    require_kind(scheme, kind)
    return row_of(scheme, space)[kind]


def multiplicities(tree):
    """The tuple of the multiplicities of all spaces."""
    return multiplicities_of(checked(tree))


def dual_eigenvalues(tree):
    """The list of the kinds, each the tuple of the dual eigenvalues of all spaces at it."""
    scheme = checked(tree)
    rows = rows_of(scheme)
    many = multiplicities_of(scheme)
    return [
        tuple([reduced(dimensions * row[kind], valency) for dimensions, row in zip(many, rows)])
        for kind, valency in enumerate(part_valencies(scheme))
    ]


def is_row(ways, row):
    """Whether a row of as many integers as kinds has the eigenvalues of some space (point 35).

    The ways are told for each i, for each j up to i, as the list of the numbers for i, j and each k.
    """
    if row[0] != 1:
        return False
    for first, beside in zip(row, ways):
        for second, numbers in zip(row, beside):
            if first * second != dot(numbers, row):
                return False
    return True


def check_eigenvalues(tree, rows):
    """Whether these rows are the eigenvalues of all spaces, in whatever order."""
    scheme = checked(tree)
    kinds = kinds_of(scheme)
    if kinds > MOST_CHECKED_KINDS:
        raise InvalidQuestion("the scheme has too many kinds")
    if len(rows) != kinds or not all(are_integers(row) and len(row) == kinds for row in rows):
        return False
    if len({tuple(row) for row in rows}) != kinds:
        return False
    tables = all_numbers(scheme)
    ways = [[[table[i][j] for table in tables] for j in range(i + 1)] for i in range(kinds)]
    return all(is_row(ways, row) for row in rows)


def krein(tree, i, j, k):
    """The fraction for three spaces that point 41 tells."""
    scheme = checked(tree)
    for space in (i, j, k):
        require_kind(scheme, space)
    rows = rows_of(scheme)
    products = [first * second * third for first, second, third in zip(rows[i], rows[j], rows[k])]
    tops, bottom = over_one([
        (product, valency * valency) for product, valency in zip(products, part_valencies(scheme))
    ])
    many = multiplicities_of(scheme)
    return reduced(many[i] * many[j] * sum(tops), points_of(scheme) * bottom)
