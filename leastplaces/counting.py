"""Counting and numbering shapes without listing them.

A place behind a shape can lead to each rise of the shape, a place whose entry is
at most each later one, or it has the distance 0. So behind k rises it has k + 1
distances, and afterwards there are 1 to k + 1 rises, once each.
"""

from leastplaces.bounds import MAX_COUNT
from leastplaces.errors import NoIndex, NotShape
from leastplaces.rows import is_place
from leastplaces.shapes import distances_at, is_shape_up_to


def endings(n):
    """Item [left][rises]: in how many ways a shape goes on for left places behind so many rises."""
    table = [[1 for rises in range(n + 1)]]
    for left in range(1, n + 1):
        shorter = table[left - 1]
        # One rise more allows one distance more, which leaves all of them and the new place.
        counts = [shorter[1]]
        for rises in range(1, n - left + 1):
            counts.append(counts[rises - 1] + shorter[rises + 1])
        table.append(counts)
    return table


def rises_after(distances, chosen):
    """How many rises there are behind a place with the chosen one of its distances."""
    # The distance 0 hides all earlier rises; a greater one leaves fewer of them.
    return 1 if chosen == 0 else len(distances) + 1 - chosen


def count_shapes(n):
    """The number of shapes with n places."""
    # A shape has at least one place.
    return endings(n)[n][0] if n > 0 else 0


def shape_at(n, index):
    """The shape with n places and this index in ascending order."""
    if not is_place(count_shapes(n), index):
        raise NoIndex(index)
    table = endings(n)
    shape = []
    rest = index
    for place in range(n):
        counts = table[n - 1 - place]
        distances = distances_at(shape, place)
        chosen = 0
        while rest >= counts[rises_after(distances, chosen)]:
            rest -= counts[rises_after(distances, chosen)]
            chosen += 1
        shape.append(distances[chosen])
    return tuple(shape)


def shape_index(value):
    """The index of a shape among those with as many places."""
    if not is_shape_up_to(MAX_COUNT, value):
        raise NotShape()
    table = endings(len(value))
    index = 0
    for place, distance in enumerate(value):
        counts = table[len(value) - 1 - place]
        distances = distances_at(value, place)
        index += sum([counts[rises_after(distances, lower)]
                      for lower in range(distances.index(distance))])
    return index


def next_distance(shape, place):
    """The next greater distance that a place behind the first one can have, 0 if there is none."""
    distance = shape[place]
    if distance == 0:
        return 1
    further = shape[place - distance]
    return distance + further if further > 0 else 0


def next_shape(shape):
    """The shape that comes next after this one, None after the last one."""
    # The first place has the distance 0 in all shapes.
    for place in range(len(shape) - 1, 0, -1):
        distance = next_distance(shape, place)
        if distance > 0:
            return shape[:place] + (distance,) + (0,) * (len(shape) - 1 - place)
    return None


def each_shape(n):
    """Yield the shapes with n places in ascending order, each made from the one before."""
    shape = (0,) * n if n > 0 else None
    while shape is not None:
        yield shape
        shape = next_shape(shape)
