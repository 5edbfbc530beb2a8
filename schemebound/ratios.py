"""Fractions: tuples of two integers in lowest terms, the second one above 0."""

from math import gcd, lcm

from schemebound.integers import are_integers


def reduced(top, bottom):
    """The fraction, in lowest terms, of two integers, the second one above 0."""
    common = gcd(top, bottom)
    return (top // common, bottom // common)


def is_fraction(value):
    """Whether a value is a fraction, in lowest terms or not, told as a tuple or a list."""
    return are_integers(value) and len(value) == 2 and value[1] > 0


def are_fractions(values, many):
    """Whether these are so many fractions."""
    return isinstance(values, (list, tuple)) and len(values) == many and all(is_fraction(value) for value in values)


def over_one(fractions):
    """The fractions over one bottom: the list of what stands above it, and the bottom."""
    bottom = 1
    for _, below in fractions:
        bottom = lcm(bottom, below)
    return [top * (bottom // below) for top, below in fractions], bottom


def dot(one, other):
    """The sum of the products of two lists of integers, member by member."""
    return sum([mine * beside for mine, beside in zip(one, other)])
