"""Perfect lots of words and of sets: balls, what has to be so if there is one, and how far a lot reaches."""

from schemebound.eigenvalues import rows_of
from schemebound.errors import InvalidQuestion
from schemebound.integers import is_integer
from schemebound.lots import counts_of, duals_of, require_lot, require_ordered, shares_of
from schemebound.numbers import part_valencies
from schemebound.points import kinds_of, points_of, told_at
from schemebound.schemes import checked

MOST_REACH_POINTS = 5000
BLANK = -1


def require_radius(tree, radius):
    """Raise InvalidQuestion unless there are balls of the radius."""
    if not is_integer(radius) or not 0 <= radius < kinds_of(tree):
        raise InvalidQuestion("there are no balls of this radius")


def checked_with_radius(tree, radius):
    """The tree as tuples, if there are balls of the radius."""
    scheme = checked(tree)
    require_ordered(scheme)
    require_radius(scheme, radius)
    return scheme


def ball_of(tree, radius):
    """The number of points in a ball, for a tree that has been checked."""
    return sum(part_valencies(tree)[:radius + 1])


def zeros_of(tree, radius):
    """The ascending list of the spaces on which the ball value is 0, for a tree that has been checked."""
    return [space for space, row in enumerate(rows_of(tree)) if sum(row[:radius + 1]) == 0]


def ball_size(tree, radius):
    """The number of points in a ball."""
    return ball_of(checked_with_radius(tree, radius), radius)


def ball_divides(tree, radius):
    """Whether the number of points in a ball divides the number of all points."""
    scheme = checked_with_radius(tree, radius)
    return points_of(scheme) % ball_of(scheme, radius) == 0


def ball_zeros(tree, radius):
    """The ascending list of the spaces on which the ball value is 0."""
    return zeros_of(checked_with_radius(tree, radius), radius)


def can_be_perfect(tree, radius):
    """Whether a ball divides the points, and the ball value is 0 on as many spaces as a perfect lot needs."""
    scheme = checked_with_radius(tree, radius)
    return points_of(scheme) % ball_of(scheme, radius) == 0 and len(zeros_of(scheme, radius)) >= radius


def is_perfect(tree, lot, radius):
    """Whether each point lies in the ball around just one point of a lot."""
    scheme = checked(tree)
    require_lot(scheme, lot)
    require_ordered(scheme)
    require_radius(scheme, radius)
    if len(lot) * ball_of(scheme, radius) != points_of(scheme):
        return False
    return not any(counts_of(scheme, lot)[1:2 * radius + 1])


def faces_of(tree, told):
    """The list of a word without one of its figures, or of a set without one of its members, in each way.

    Two points have one of these in common exactly if their distance is at most 1.
    """
    between = (BLANK,) if tree[0] == "words" else ()
    return [told[:at] + between + told[at + 1:] for at in range(len(told))]


def told_with(tree, face):
    """The list of all words or sets that have a face in common."""
    if tree[0] == "words":
        at = face.index(BLANK)
        return [face[:at] + (figure,) + face[at + 1:] for figure in range(tree[2])]
    return [tuple(sorted([*face, member])) for member in range(tree[1]) if member not in face]


def layer_behind(tree, layer, seen):
    """The list of the words or sets that are not seen yet, of the distance 1 to some of a layer."""
    faces = {face: True for told in layer for face in faces_of(tree, told)}
    return list({told: True for face in faces for told in told_with(tree, face) if told not in seen})


def reach(tree, lot):
    """The greatest of the distances that the points have to their nearest points of a lot, for at most 5000 points."""
    scheme = checked(tree)
    require_lot(scheme, lot)
    require_ordered(scheme)
    if points_of(scheme) > MOST_REACH_POINTS:
        raise InvalidQuestion("the scheme has too many points to look at all of them")
    layer = [told_at(scheme, point) for point in lot]
    seen = {told: True for told in layer}
    reached = 0
    # Layer by layer, as each step to a point of the distance 1 leads at most one further away.
    while len(seen) < points_of(scheme):
        layer = layer_behind(scheme, layer, seen)
        for told in layer:
            seen[told] = True
        reached += 1
    return reached


def loud_spaces(tree, lot):
    """The ascending list of the spaces other than 0 in which a lot has a dual share above 0."""
    scheme = checked(tree)
    require_lot(scheme, lot)
    duals = duals_of(scheme, len(lot), shares_of(scheme, lot))
    return [space for space, dual in enumerate(duals) if space > 0 and dual[0] > 0]
