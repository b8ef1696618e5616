"""Trees of shapes: each root stands between the places of its left and right tree."""

from leastplaces.bounds import MAX_PLACES
from leastplaces.shapes import least_of


def is_tree(value):
    """Whether the value is a tree with a size from 1 to MAX_PLACES."""
    size = 0
    rest = [value]
    # Counted on the way, so that a value that is too great is left early.
    while len(rest) > 0 and size <= MAX_PLACES:
        part = rest.pop()
        if not isinstance(part, tuple) or len(part) not in (0, 2):
            return False
        if len(part) == 2:
            size += 1
            rest.extend(part)
    return 1 <= size <= MAX_PLACES


def window_tree(shape, first, last):
    """The tree of the places from first to last, () if there are none."""
    if first > last:
        return ()
    root = least_of(shape, first, last)
    return (window_tree(shape, first, root - 1), window_tree(shape, root + 1, last))


def tree_of(shape):
    """The tree of a shape."""
    return window_tree(shape, 0, len(shape) - 1)


def tree_distances(tree, follows):
    """The distances of the places of a tree; follows: whether a lesser root stands before them."""
    if len(tree) == 0:
        return []
    left, right = tree
    before = tree_distances(left, follows)
    # All of the left tree is greater than its root, and just before the left
    # tree stands the root in whose right tree both are.
    distance = len(before) + 1 if follows else 0
    return before + [distance] + tree_distances(right, True)


def tree_shape(tree):
    """The shape with this tree."""
    return tuple(tree_distances(tree, False))


def each_root(shape):
    """Yield (place, parent, depth, first, last) for each place, with its span; roots come first."""
    rest = [(0, len(shape) - 1, None, 0)]
    while len(rest) > 0:
        first, last, parent, depth = rest.pop()
        if first <= last:
            place = least_of(shape, first, last)
            yield (place, parent, depth, first, last)
            # The left tree is put in last, because the last one is taken next.
            rest.append((place + 1, last, place, depth + 1))
            rest.append((first, place - 1, place, depth + 1))


def parents(shape):
    """The parent of each place, None for the root."""
    found = {place: parent for place, parent, depth, first, last in each_root(shape)}
    return tuple([found[place] for place in range(len(shape))])


def spans(shape):
    """The greatest window (first, last) of each place of which it is the least place."""
    found = {place: (first, last) for place, parent, depth, first, last in each_root(shape)}
    return tuple([found[place] for place in range(len(shape))])


def each_place(shape):
    """Yield (place, depth) for each place: the root, its left tree, its right tree."""
    for place, parent, depth, first, last in each_root(shape):
        yield (place, depth)


def basis(shape):
    """The claims (first, last, place) of all spans with two or more places, ascending."""
    return tuple(sorted([(first, last, place)
                         for place, parent, depth, first, last in each_root(shape) if first < last]))
