"""The eigenvalues of listed schemes, as far as they are integers.

Tables of points that stand for sums of the tables A(i) of the kinds are told by the list of the numbers of times
that each A(i) stands in them. The kind i acts on them: A(i) times such a table is such a table again.
"""

from schemebound.errors import InvalidQuestion
from schemebound.numbers import all_numbers, part_valencies
from schemebound.ratios import dot


def action_of(numbers, i):
    """The rows, for each kind k, of the times that A(k) stands in A(i) A(j), for each j."""
    return [list(table[i]) for table in numbers]


def times(one, other):
    """The product of two square tables."""
    columns = [list(column) for column in zip(*other)]
    return [[dot(row, column) for column in columns] for row in one]


def characteristic(rows):
    """The coefficients, the highest one first, of the characteristic polynomial of a square table.

    Found by the steps of Faddeev and LeVerrier, in which each division is without remainder.
    """
    size = len(rows)
    coefficients = [1]
    product = [[0] * size for _ in range(size)]
    for step in range(1, size + 1):
        shifted = [
            [cell + (coefficients[-1] if r == c else 0) for c, cell in enumerate(row)] for r, row in enumerate(product)
        ]
        product = times(rows, shifted)
        trace = sum([product[at][at] for at in range(size)])
        coefficients.append(-trace // step)
    return coefficients


def divided(coefficients, root):
    """The quotient and the remainder of a polynomial by the one of degree 1 that has this root."""
    found = []
    carried = 0
    for coefficient in coefficients:
        carried = carried * root + coefficient
        found.append(carried)
    return found[:-1], found[-1]


def whole_roots(coefficients, most):
    """The list of the integers from -most to most that are roots; raises InvalidQuestion if there are other roots."""
    roots = []
    rest = coefficients
    for root in range(-most, most + 1):
        quotient, remainder = divided(rest, root)
        while len(rest) > 1 and remainder == 0:
            roots.append(root)
            rest = quotient
            quotient, remainder = divided(rest, root)
    if len(rest) > 1:
        raise InvalidQuestion("the eigenvalues of the scheme are not all integers")
    return sorted(set(roots))


def without(action, roots, told):
    """A told table, times A(i) less each of the roots in turn."""
    found = told
    for root in roots:
        found = [dot(row, found) - root * number for row, number in zip(action, found)]
    return found


def listed_rows(tree):
    """The list, in descending order, of the rows of eigenvalues of a listed scheme."""
    numbers = all_numbers(tree)
    # The table A(0) is a sum of one table for each space. What is left of it is parted kind by kind: to take away
    # all eigenvalues of a kind but one leaves the tables of those spaces on which the kind has this one.
    parted = [((), [1] + [0] * (len(numbers) - 1))]
    for i, valency in enumerate(part_valencies(tree)):
        action = action_of(numbers, i)
        roots = whole_roots(characteristic(action), valency)
        following = []
        for row, told in parted:
            for root in roots:
                left = without(action, [other for other in roots if other != root], told)
                if any(left):
                    following.append(((*row, root), left))
        parted = following
    return sorted([row for row, _ in parted], reverse=True)
