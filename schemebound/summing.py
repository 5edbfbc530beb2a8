"""Points of words added figure by figure: lots that hold sums, and points at right angles."""

from schemebound.errors import InvalidQuestion, TooMany
from schemebound.lots import require_lot
from schemebound.points import figures_at, place_of_figures, points_of, require_point
from schemebound.schemes import checked

MOST_ANGLE_POINTS = 10 ** 5


def require_words(tree):
    """Raise InvalidQuestion unless the scheme is one of words."""
    if tree[0] != "words":
        raise InvalidQuestion("the scheme is not one of words")


def checked_with_lot(tree, lot):
    """The tree as tuples, if it is one of words and this is a lot of it."""
    scheme = checked(tree)
    require_lot(scheme, lot)
    require_words(scheme)
    return scheme


def words_of(tree, points):
    """The list of the words of some points, each a tuple of its figures."""
    return [figures_at(tree[1], tree[2], point) for point in points]


def places_of(tree, words):
    """The ascending tuple of the points of some words."""
    return tuple([place_of_figures(tree[2], word) for word in sorted(words)])


def added(base, one, other):
    """The sum of two words."""
    return tuple([(figure + beside) % base for figure, beside in zip(one, other)])


class Span:
    """The words that some words, taken in one after another, span; the keys of the dict `words`."""

    def __init__(self, many, base):
        self.base = base
        self.words = {(0,) * many: True}

    def take_in(self, word, most):
        """Take in a word that is not spanned yet; returns False, and takes in only some words, if that makes more
        words than most.
        """
        before = list(self.words)
        multiple = word
        # The sums with the multiples of the word are all new until a multiple is spanned already.
        while multiple not in self.words:
            if len(self.words) + len(before) > most:
                return False
            for other in before:
                self.words[added(self.base, multiple, other)] = True
            multiple = added(self.base, multiple, word)
        return True


def span_of(tree, lot, most):
    """The list of the words that a lot spans, or None if these are more than most."""
    span = Span(tree[1], tree[2])
    if most < 1:
        return None
    for word in words_of(tree, lot):
        if word not in span.words and not span.take_in(word, most):
            return None
    return list(span.words)


def spanning_words(tree, lot):
    """A list of words of a lot, each of them none that those ahead of it span, that span what the lot does."""
    span = Span(tree[1], tree[2])
    chosen = []
    for word in words_of(tree, lot):
        if word not in span.words:
            span.take_in(word, points_of(tree))
            chosen.append(word)
    return chosen


def products_with(base, word):
    """The list, for all words in their order, of the sums of the products of figures with a word, modulo the base."""
    sums = [0]
    for figure in word:
        sums = [(already + figure * other) % base for already in sums for other in range(base)]
    return sums


def moved(tree, lot, point):
    """The ascending tuple of the points of a lot moved by a point."""
    scheme = checked(tree)
    require_lot(scheme, lot)
    require_point(scheme, point)
    require_words(scheme)
    by = figures_at(scheme[1], scheme[2], point)
    return places_of(scheme, [added(scheme[2], word, by) for word in words_of(scheme, lot)])


def holds_sums(tree, lot):
    """Whether the sum of any two points of a lot is one of its points."""
    scheme = checked_with_lot(tree, lot)
    # A lot spans its own points at least; so it holds sums if it spans no more of them.
    return span_of(scheme, lot, len(lot)) is not None


def spanned(tree, lot, *, limit=500):
    """The ascending tuple of the points that a lot spans."""
    scheme = checked_with_lot(tree, lot)
    words = span_of(scheme, lot, limit)
    if words is None:
        raise TooMany(limit)
    return places_of(scheme, words)


def right_angles(tree, lot):
    """The ascending tuple of the points at right angles to all points of a lot, for at most 10 ** 5 points."""
    scheme = checked_with_lot(tree, lot)
    if points_of(scheme) > MOST_ANGLE_POINTS:
        raise InvalidQuestion("the scheme has too many points")
    found = list(range(points_of(scheme)))
    # A point at right angles to some words is so to all that they span.
    for word in spanning_words(scheme, lot):
        sums = products_with(scheme[2], word)
        found = [point for point in found if sums[point] == 0]
    return tuple(found)
