"""Schemes, faulty trees and slow counting by the words of the document, for the tests."""

from itertools import combinations, product

ONE_POINT = ("listed", ((0,),))
PAIR = ("listed", ((0, 1), (1, 0)))


def circle(many, kind_at):
    """The listed tree of points on a circle; `kind_at` tells the kind at each distance."""
    return ("listed", tuple(
        tuple(kind_at(min((x - y) % many, (y - x) % many)) for y in range(many)) for x in range(many)))


PENTAGON = circle(5, lambda distance: distance)
EIGHT_KINDS = circle(15, lambda distance: distance)
NINE_KINDS = circle(17, lambda distance: distance)
ROWS_24 = circle(24, lambda distance: min(distance, 1))
ROWS_25 = circle(25, lambda distance: min(distance, 1))
# The graph is regular, so all valencies are steady, and yet the other numbers are not.
HEXAGON_OF_TWO = circle(6, lambda distance: min(distance, 2))
CUBE_OF_KINDS = ("listed", tuple(tuple(x ^ y for y in range(8)) for x in range(8)))
TRIANGLE_PAIR = ("listed", ((0, 1, 2, 2), (1, 0, 2, 2), (2, 2, 0, 1), (2, 2, 1, 0)))

SMALL = (
    ONE_POINT, PAIR, PENTAGON, CUBE_OF_KINDS, TRIANGLE_PAIR, EIGHT_KINDS, ROWS_24,
    ("words", 1, 2), ("words", 1, 5), ("words", 2, 2), ("words", 3, 2), ("words", 4, 2), ("words", 2, 3),
    ("words", 3, 3), ("words", 2, 5), ("words", 6, 2),
    ("sets", 2, 1), ("sets", 4, 2), ("sets", 5, 2), ("sets", 6, 3), ("sets", 7, 3), ("sets", 8, 2), ("sets", 12, 1),
    ("product", PAIR, ("words", 2, 3)), ("product", ("sets", 4, 2), PENTAGON),
    ("product", PENTAGON, ("product", ("words", 1, 3), ("sets", 3, 1))),
    ("product", ("product", ("words", 1, 3), PAIR), ("product", ONE_POINT, ("words", 2, 2))),
)

MANY_POINTS = (
    ("words", 20, 1000), ("words", 40, 31), ("sets", 80, 40), ("words", 40, 2), ("sets", 80, 1),
    ("product", ("words", 20, 1000), ONE_POINT), ("product", ("sets", 20, 4), ("words", 3, 10)),
    ("product", ("words", 8, 1000), ("product", PENTAGON, ("words", 1, 7))),
)


def chain(leaves):
    """The product of all leaves, each one with the product of those behind it."""
    tree = leaves[-1]
    for leaf in leaves[-2::-1]:
        tree = ("product", leaf, tree)
    return tree


def deep(levels):
    """A tree of many products, one within the other."""
    return chain([("words", 1, 2)] * (levels + 1))


FAULTY_PARTS = {
    "no tree": (
        (), ("words",), ("",), ("word", 2, 2), ("Words", 2, 2), (3, 2), (("words",), 2, 2),
        ("scheme", ("words", 2, 2)), ["words", 2, 2], "words", None, 7),
    "members": (
        ("words", 2), ("words", 2, 2, 2), ("sets", 4), ("sets", 4, 2, 1), ("listed",), ("listed", ((0,),), 1),
        ("listed", 1, ((0,),)), ("product", PAIR), ("product", PAIR, PAIR, PAIR), ("product",)),
    "bounds": (
        ("words", 0, 2), ("words", -1, 2), ("words", 41, 2), ("words", 2, 1), ("words", 2, 0), ("words", 2, -2),
        ("words", 1, 1001), ("words", 10 ** 60, 2), ("words", 2, 10 ** 60), ("sets", 4, 0), ("sets", 4, -1),
        ("sets", 3, 2), ("sets", 0, 0), ("sets", 79, 40), ("sets", 81, 40), ("sets", 81, 1), ("sets", 10 ** 60, 2),
        ("sets", -4, -2)),
    "no integers": (
        ("words", "2", 2), ("words", 2, None), ("words", True, 2), ("sets", 4, True), ("sets", (4,), 2)),
    "rows": (
        ("listed", ()), ("listed", []), ("listed", ((),)), ("listed", ((0, 1), (1,))), ("listed", ((0, 1),)),
        ("listed", ((0,), (0,))), ("listed", ((0, 1, 1), (1, 0, 1))), ("listed", ((0, 1), (1, 0), (1, 1))),
        ("listed", 3), ("listed", None), ("listed", (0,)), ("listed", ("0",)), ROWS_25, NINE_KINDS),
    "cells": (
        ("listed", ((0, -1), (-1, 0))), ("listed", ((0, 8), (8, 0))), ("listed", ((1,),)),
        ("listed", ((1, 0), (0, 1))), ("listed", ((0, 0), (0, 0))), ("listed", ((0, 1), (1, 1))),
        ("listed", ((0, "1"), ("1", 0)))),
    "no scheme": (
        ("listed", ((0, 1, 1), (1, 0, 2), (1, 2, 0))), ("listed", ((0, 1, 2), (2, 0, 1), (1, 2, 0))),
        ("listed", ((0, 2), (2, 0))), ("listed", ((0, 1, 1), (2, 0, 1), (1, 1, 0))), HEXAGON_OF_TWO,
        ("listed", ((0, 1, 2, 2), (1, 0, 1, 2), (2, 1, 0, 1), (2, 2, 1, 0)))),
    "points": (
        ("words", 21, 1000), ("words", 40, 32), ("words", 40, 1000), ("product", ("words", 20, 1000), ("words", 1, 2)),
        ("product", ("sets", 80, 40), ("words", 13, 1000))),
    "kinds": (
        ("product", ("words", 1, 2), ("words", 30, 2)), ("product", ("words", 6, 2), ("words", 8, 2)),
        ("product", ("sets", 80, 40), PAIR), ("product", CUBE_OF_KINDS, CUBE_OF_KINDS)),
    "parts": (chain([ONE_POINT] * 5), ("product", chain([PAIR] * 3), chain([PAIR] * 2)), deep(5), deep(1000)),
}


def faulty_trees():
    """All faulty parts, each as the whole tree and at different places within products, and a label for each."""
    for fault, parts in FAULTY_PARTS.items():
        for at, part in enumerate(parts):
            yield f"{fault} {at} alone", part
            yield f"{fault} {at} as the first part", ("product", part, PAIR)
            yield f"{fault} {at} as the second part", ("product", ("words", 2, 3), part)
            yield f"{fault} {at} as an inner part", ("product", PAIR, ("product", part, ("sets", 4, 2)))


def points_told(tree):
    """What the points of a scheme are, in their order, as the document tells it."""
    if tree[0] == "words":
        return list(product(range(tree[2]), repeat=tree[1]))
    if tree[0] == "sets":
        return list(combinations(range(tree[1]), tree[2]))
    if tree[0] == "listed":
        return list(range(len(tree[1])))
    return list(product(points_told(tree[1]), points_told(tree[2])))


def kinds_told(tree):
    """The number of kinds, as the document tells it."""
    if tree[0] == "product":
        return kinds_told(tree[1]) * kinds_told(tree[2])
    if tree[0] == "listed":
        return len({kind for row in tree[1] for kind in row})
    return (tree[1] if tree[0] == "words" else tree[2]) + 1


def kind_told(tree, one, other):
    """The kind of two points as `points_told` tells them."""
    if tree[0] == "words":
        return len([place for place in range(tree[1]) if one[place] != other[place]])
    if tree[0] == "sets":
        return tree[2] - len([member for member in one if member in other])
    if tree[0] == "listed":
        return tree[1][one][other]
    first, second = kind_told(tree[1], one[0], other[0]), kind_told(tree[2], one[1], other[1])
    return first * kinds_told(tree[2]) + second


def counted_numbers(table):
    """The numbers for all i, j and k by counting, found to be the same for all points: p[k][i][j]."""
    many, kinds = len(table), 1 + max(map(max, table))
    found = {}
    for x in range(many):
        for y in range(many):
            counts = [[0] * kinds for _ in range(kinds)]
            for z in range(many):
                counts[table[x][z]][table[z][y]] += 1
            if found.setdefault(table[x][y], counts) != counts:
                return None
    return [found[kind] for kind in range(kinds)]


def is_table_of_scheme(table):
    """Whether a square table with members from 0 on is that of a scheme, straight from point 2."""
    many = len(table)
    kinds = 1 + max(map(max, table))
    for x in range(many):
        for y in range(many):
            if table[x][y] != table[y][x] or (table[x][y] == 0) != (x == y):
                return False
    if {kind for row in table for kind in row} != set(range(kinds)):
        return False
    return counted_numbers(table) is not None


def has_whole_eigenvalues(tree):
    """Whether a scheme of these samples has whole eigenvalues: of the listed ones, circles of 5 and 15 points do not."""
    if tree[0] == "product":
        return has_whole_eigenvalues(tree[1]) and has_whole_eigenvalues(tree[2])
    return tree not in (PENTAGON, EIGHT_KINDS)


def switched(tree, kinds):
    """The listed tree with other numbers for the kinds."""
    return ("listed", tuple(tuple(kinds[kind] for kind in row) for row in tree[1]))


# Listed schemes with whole eigenvalues, also such that the first kinds do not part all spaces.
LISTED_WHOLE = (
    ONE_POINT, PAIR, CUBE_OF_KINDS, TRIANGLE_PAIR, ROWS_24, circle(6, lambda distance: distance),
    switched(circle(6, lambda distance: distance), (0, 3, 2, 1)), switched(TRIANGLE_PAIR, (0, 2, 1)),
    switched(CUBE_OF_KINDS, (0, 7, 3, 5, 1, 2, 6, 4)),
)

# Two points of a torus of four by four are near if their difference is one of six.
SHRIKHANDE = ("listed", tuple(
    tuple(0 if x == y else 1 if ((x // 4 - y // 4) % 4, (x - y) % 4) in
          {(0, 1), (0, 3), (1, 0), (3, 0), (1, 1), (3, 3)} else 2 for y in range(16)) for x in range(16)))
