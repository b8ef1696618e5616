"""Joins: the shapes of two rows side by side."""

from leastplaces.errors import BadTargets
from leastplaces.rows import is_whole
from leastplaces.shapes import distances_at, leads_out


def falls(shape):
    """The places with the distance 0, ascending."""
    return tuple([place for place, distance in enumerate(shape) if distance == 0])


def rises(shape):
    """The places whose entries are at most each later entry, ascending."""
    many = len(shape)
    # A place behind the shape can lead to just these.
    return tuple([many - distance for distance in reversed(distances_at(shape, many))
                  if distance > 0])


def are_targets(one, other, value):
    """Whether the value is targets of two shapes."""
    if not isinstance(value, tuple) or len(value) != len(falls(other)):
        return False
    left = rises(one)
    for target in value:
        if target is not None and not (is_whole(target) and target in left):
            return False
        left = [rise for rise in left if target is not None and rise <= target]
    return True


def side_by_side(one, other, targets):
    """The shape of both rows, the falls of the other one leading to the targets."""
    behind = list(other)
    for fall, target in zip(falls(other), targets):
        if target is not None:
            behind[fall] = len(one) + fall - target
    return one + tuple(behind)


def join(one, other, targets):
    """The join of two shapes for some targets."""
    if not are_targets(one, other, targets):
        raise BadTargets(targets)
    return side_by_side(one, other, targets)


def count_joins(one, other):
    """The number of joins of two shapes."""
    chosen = len(falls(other))
    ways = 1
    for size in range(1, chosen + 1):
        # Each step ends at a whole number of ways, so nothing is lost by the division.
        ways = ways * (len(rises(one)) + size) // size
    return ways


def each_targets(choices, many):
    """Yield all targets for so many falls; choices are the rises, the greatest one first."""
    # None is the distance 0, and a greater rise is nearer, so the joins ascend.
    yield (None,) * many
    if many > 0:
        fewer = many - 1
        for at, rise in enumerate(choices):
            lower = choices[at:]
            for rest in each_targets(lower, fewer):
                yield (rise,) + rest


def each_join(one, other):
    """Yield all joins of two shapes in ascending order."""
    choices = rises(one)[::-1]
    many = len(falls(other))
    for targets in each_targets(choices, many):
        yield side_by_side(one, other, targets)


def targets_of(shape, many):
    """The targets for which the shape is the join of its first many places and the others."""
    return tuple([place - shape[place] if shape[place] > 0 else None
                  for place in range(many, len(shape)) if leads_out(shape, place, many)])
