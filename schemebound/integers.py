"""Integers: which values are some, powers, and choices."""

from math import comb


def is_integer(value):
    """Whether a value is an integer; True and False are none."""
    return isinstance(value, int) and not isinstance(value, bool)


def are_integers(values):
    """Whether a value is a list or tuple of integers."""
    return isinstance(values, (list, tuple)) and all(is_integer(value) for value in values)


def power(base, exponent):
    """The base to the power of an exponent from 0 on; 0 to the power of 0 is 1."""
    result = 1
    for _ in range(exponent):
        result *= base
    return result


def choose(many, few):
    """The number of ways to choose few of many things: 0 for fewer than none and for more than all."""
    if few < 0 or few > many:
        return 0
    return comb(many, few)
