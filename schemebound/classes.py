"""Kinds put together to classes: where these are kinds again, and what they are then."""

from itertools import combinations

from schemebound.errors import InvalidQuestion, TooMany
from schemebound.integers import are_integers, is_integer
from schemebound.numbers import all_numbers, part_numbers, part_valencies
from schemebound.points import kinds_of, points_of, table_of
from schemebound.schemes import checked
from schemebound.tables import MOST_LISTED_KINDS, MOST_ROWS


def are_classes(tree, classes):
    """Whether these are classes of the kinds of a tree that has been checked."""
    if not isinstance(classes, (list, tuple)) or not all(are_integers(some) and len(some) > 0 for some in classes):
        return False
    if not classes or list(classes[0]) != [0]:
        return False
    return sorted([kind for some in classes for kind in some]) == list(range(kinds_of(tree)))


def require_classes(tree, classes):
    """Raise InvalidQuestion unless these are classes of the kinds."""
    if not are_classes(tree, classes):
        raise InvalidQuestion("these are no classes of the kinds")


def class_sums(numbers, one, other):
    """The sum of the numbers of one table for a kind of the one class and a kind of the other one."""
    return sum([numbers[i][j] for i in one for j in other])


def merged_table(numbers, classes):
    """The table of the sums of the numbers of one table, class by class."""
    return tuple([tuple([class_sums(numbers, one, other) for other in classes]) for one in classes])


def fault_of(tree, classes):
    """The merging fault of classes, or None."""
    sums = [merged_table(numbers, classes) for numbers in all_numbers(tree)]
    for one in range(len(classes)):
        for other in range(one, len(classes)):
            for some in classes:
                kinds = sorted(some)
                for kind in kinds[1:]:
                    if sums[kind][one][other] != sums[kinds[0]][one][other]:
                        return (one, other, kinds[0], kind)
    return None


def require_merging(tree, classes):
    """Raise InvalidQuestion unless these are classes of the kinds that can be put together."""
    require_classes(tree, classes)
    if fault_of(tree, classes) is not None:
        raise InvalidQuestion("the kinds cannot be put together to these classes")


def merged_fault(tree, classes):
    """The merging fault of classes, or None."""
    scheme = checked(tree)
    require_classes(scheme, classes)
    return fault_of(scheme, classes)


def is_merging(tree, classes):
    """Whether the kinds can be put together to the classes."""
    return merged_fault(tree, classes) is None


def merged_valencies(tree, classes):
    """The tuple of the valencies of the classes as kinds."""
    scheme = checked(tree)
    require_merging(scheme, classes)
    found = part_valencies(scheme)
    return tuple([sum([found[kind] for kind in some]) for some in classes])


def merged_numbers(tree, classes, which):
    """The table of the numbers for a class as k, with the classes as kinds."""
    scheme = checked(tree)
    require_merging(scheme, classes)
    if not is_integer(which) or not 0 <= which < len(classes):
        raise InvalidQuestion("there is no such class")
    return merged_table(part_numbers(scheme, classes[which][0]), classes)


def merged_scheme(tree, classes):
    """The tree of the listed scheme with the classes as kinds."""
    scheme = checked(tree)
    require_merging(scheme, classes)
    if points_of(scheme) > MOST_ROWS or len(classes) > MOST_LISTED_KINDS:
        raise InvalidQuestion("the scheme is too great to be listed")
    class_of = {kind: at for at, some in enumerate(classes) for kind in some}
    return ("listed", tuple([tuple([class_of[kind] for kind in row]) for row in table_of(scheme)]))


def ways_to_part(many):
    """The number of ways to part so many things into classes (known as a Bell number)."""
    row = [1]
    for _ in range(many):
        following = [row[-1]]
        for number in row:
            following.append(following[-1] + number)
        row = following
    return row[0]


def fits_others(all_tables, classes):
    """Whether the sums for any two of some classes are the same for all kinds of one of these classes."""
    for at, one in enumerate(classes):
        for other in classes[at:]:
            for some in classes:
                sums = [class_sums(all_tables[kind], one, other) for kind in some]
                if min(sums) != max(sums):
                    return False
    return True


def lists_from(all_tables, classes, rest):
    """The list of all lists of classes that can be put together, begin with some classes and part the rest."""
    # What is wrong with some classes stays wrong whatever the others are: so most lists are never written.
    if not fits_others(all_tables, classes):
        return []
    if not rest:
        return [tuple(classes)]
    found = []
    for size in range(len(rest)):
        for some in combinations(rest[1:], size):
            others = [kind for kind in rest[1:] if kind not in some]
            found.extend(lists_from(all_tables, classes + [(rest[0], *some)], others))
    return found


def mergings(tree, *, limit=1000):
    """The ascending list of all lists of classes that can be put together."""
    scheme = checked(tree)
    kinds = kinds_of(scheme)
    if ways_to_part(kinds - 1) > limit:
        raise TooMany(limit)
    return sorted(lists_from(all_numbers(scheme), [(0,)], list(range(1, kinds))))
