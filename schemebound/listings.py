"""Listed schemes: which rows of kinds are the table of one, and how their points are counted."""

from schemebound.integers import are_integers

MOST_ROWS = 24
MOST_LISTED_KINDS = 8


def is_square(rows):
    """Whether these are rows, not too many, with a column for each row."""
    if not isinstance(rows, (list, tuple)) or not 1 <= len(rows) <= MOST_ROWS:
        return False
    return all(isinstance(row, (list, tuple)) and len(row) == len(rows) for row in rows)


def are_cells(row):
    """Whether all members of a row can be kinds."""
    return are_integers(row) and all(0 <= kind < MOST_LISTED_KINDS for kind in row)


def is_mirrored(rows):
    """Whether each two points have one kind both ways round, 0 for a point and itself alone."""
    for x, row in enumerate(rows):
        for y, kind in enumerate(row):
            if kind != rows[y][x] or (kind == 0) != (x == y):
                return False
    return True


def has_each_kind(rows):
    """Whether each kind below the greatest one occurs, too."""
    greatest = max(max(row) for row in rows)
    return len({kind for row in rows for kind in row}) == greatest + 1


def way_counts(one, other):
    """The numbers of points by the kinds i to one point and j to another one, at the place i * MOST_LISTED_KINDS + j.

    The points are told by their rows in a mirrored table.
    """
    counts = [0] * (MOST_LISTED_KINDS * MOST_LISTED_KINDS)
    for i, j in zip(one, other):
        counts[i * MOST_LISTED_KINDS + j] += 1
    return counts


def has_steady_ways(rows):
    """Whether the numbers of points between two points depend on their kind alone."""
    counts_by_kind = {}
    for one in rows:
        for kind, other in zip(one, rows):
            counts = way_counts(one, other)
            if counts_by_kind.setdefault(kind, counts) != counts:
                return False
    return True


def is_listing(rows):
    """Whether these are the rows of kinds of a listed scheme."""
    if not is_square(rows) or not all(are_cells(row) for row in rows):
        return False
    return is_mirrored(rows) and has_each_kind(rows) and has_steady_ways(rows)
