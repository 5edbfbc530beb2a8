"""Tables of kinds: which of them are those of listed schemes, and what is wrong with the others."""

from schemebound.integers import is_integer

MOST_ROWS = 24
MOST_LISTED_KINDS = 8


def has_shape(rows):
    """Whether these are rows, neither none nor too many, with a column for each row."""
    if not isinstance(rows, (list, tuple)) or not 1 <= len(rows) <= MOST_ROWS:
        return False
    return all(isinstance(row, (list, tuple)) and len(row) == len(rows) for row in rows)


def cell_fault(rows):
    """The fault of the first cell that is no kind, or None."""
    for r, row in enumerate(rows):
        for c, kind in enumerate(row):
            if not is_integer(kind) or not 0 <= kind < MOST_LISTED_KINDS:
                return ("cell", r, c)
    return None


def diagonal_fault(rows):
    """The fault of the first cell that is 0 beside the diagonal, or not 0 on it, or None."""
    for r, row in enumerate(rows):
        for c, kind in enumerate(row):
            if (kind == 0) != (r == c):
                return ("diagonal", r, c)
    return None


def mirror_fault(rows):
    """The fault of the first two points that have not one kind both ways round, or None."""
    for r, row in enumerate(rows):
        for c, kind in enumerate(row):
            if kind != rows[c][r]:
                return ("mirror", r, c)
    return None


def kind_fault(rows):
    """The fault of the least kind that does not occur though a greater one does, or None."""
    kinds = sorted({kind for row in rows for kind in row})
    for expected, kind in enumerate(kinds):
        if kind != expected:
            return ("kind", expected)
    return None


def way_counts(one, other):
    """The numbers of points by the kinds i to one point and j to another one, at the place i * MOST_LISTED_KINDS + j.

    The points are told by their rows in a mirrored table.
    """
    counts = [0] * (MOST_LISTED_KINDS * MOST_LISTED_KINDS)
    for i, j in zip(one, other):
        counts[i * MOST_LISTED_KINDS + j] += 1
    return counts


def first_unlike(one, other):
    """The first place at which two lists are unlike; they are so somewhere."""
    return min(at for at, (mine, beside) in enumerate(zip(one, other)) if mine != beside)


def number_fault(rows):
    """The fault of the first two points with other numbers of points between them than the first of their kind."""
    counts_by_kind = {}
    for r, one in enumerate(rows):
        for c, other in enumerate(rows):
            counts = way_counts(one, other)
            expected = counts_by_kind.setdefault(one[c], counts)
            if counts != expected:
                at = first_unlike(counts, expected)
                return ("number", at // MOST_LISTED_KINDS, at % MOST_LISTED_KINDS, r, c)
    return None


def table_fault(rows):
    """The fault of a table, a tuple, or None."""
    if not has_shape(rows):
        return ("shape",)
    # Each of these looks only at tables without the faults ahead of it.
    return cell_fault(rows) or diagonal_fault(rows) or mirror_fault(rows) or kind_fault(rows) or number_fault(rows)
