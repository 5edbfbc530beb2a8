"""The linear bound (of Delsarte) for lots with allowed kinds alone, and the weights and shares that go with it.

The unknown of a kind from 1 on is its share over its valency. The conditions are those of the spaces from 1 on, each
over its multiplicity: the eigenvalues of the kinds, each times its unknown, add up to -1 at least. So the price of
the condition of a space is its weight times its multiplicity.
"""

from schemebound.eigenvalues import multiplicities_of
from schemebound.judging import checked_for_bounds, require_allowed_kinds
from schemebound.numbers import part_valencies
from schemebound.points import kinds_of
from schemebound.ratios import reduced
from schemebound.simplex import Tableau


def tableau_of(tree, rows):
    """The tableau of the linear bounds of a scheme; the unknown of a kind has the label of the kind less 1."""
    return Tableau([[-number for number in row[1:]] for row in rows[1:]], list(part_valencies(tree)[1:]))


def solved(tree, allowed):
    """The tree as tuples and the tableau in which the value is as great as it can be for the allowed kinds."""
    scheme, rows = checked_for_bounds(tree)
    require_allowed_kinds(scheme, allowed)
    tableau = tableau_of(scheme, rows)
    tableau.climb({kind - 1: True for kind in allowed})
    return scheme, tableau


def bound_of(tableau):
    """The bound that a tableau has reached: its value and 1, the share of kind 0."""
    return reduced(tableau.bottom + tableau.value(), tableau.bottom)


def weights_of(tree, tableau):
    """The tuple of the weights that a tableau has reached: the prices, each over the multiplicity of its space."""
    found = [(1, 1)]
    for dimensions, price in zip(multiplicities_of(tree)[1:], tableau.prices()):
        found.append(reduced(price, dimensions * tableau.bottom))
    return tuple(found)


def linear_bound(tree, allowed):
    """The linear bound for allowed kinds."""
    return bound_of(solved(tree, allowed)[1])


def greatest_size(tree, allowed):
    """The greatest integer that is not above the linear bound."""
    top, bottom = linear_bound(tree, allowed)
    return top // bottom


def best_shares(tree, allowed):
    """A tuple of right shares that add up to the linear bound."""
    scheme, tableau = solved(tree, allowed)
    found = [(1, 1)]
    for valency, value in zip(part_valencies(scheme)[1:], tableau.unknown_values()):
        found.append(reduced(valency * value, tableau.bottom))
    return tuple(found)


def best_weights(tree, allowed):
    """A tuple of right weights that show the linear bound."""
    scheme, tableau = solved(tree, allowed)
    return weights_of(scheme, tableau)


def bounds_from(tree):
    """The list of the bounds for all kinds from 1 on, from 2 on, and so on, up to the last kind alone."""
    scheme, rows = checked_for_bounds(tree)
    tableau = tableau_of(scheme, rows)
    free = {}
    bounds = []
    # From the last kind on: what is best for some kinds is where the search for one kind more begins.
    for kind in range(kinds_of(scheme) - 1, 0, -1):
        free[kind - 1] = True
        tableau.climb(free)
        bounds.append(bound_of(tableau))
    return bounds[::-1]
