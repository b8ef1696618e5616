"""Shapes: what a row tells about the least places of its windows."""

from leastplaces.bounds import MAX_PLACES
from leastplaces.rows import check_alike, check_window, is_whole, least_place


def distance_at(row, place):
    """By how many places the nearest earlier entry that is not greater stands before it."""
    for distance in range(1, place + 1):
        if row[place - distance] <= row[place]:
            return distance
    return 0


def shape_of(row):
    """The distances of all places of a row."""
    return tuple([distance_at(row, place) for place in range(len(row))])


def distances_at(shape, place):
    """The distances that a place can have behind the earlier ones of the shape, ascending."""
    found = [0]
    if place > 0:
        # A nearest place is at most all places between, so it is the place
        # before or one to which the distances lead on from there.
        distance = 1
        found.append(distance)
        while shape[place - distance] > 0:
            distance += shape[place - distance]
            found.append(distance)
    return found


def is_shape_up_to(most, value):
    """Whether the value is a shape with at most so many places."""
    if not isinstance(value, tuple) or not 1 <= len(value) <= most:
        return False
    for place, item in enumerate(value):
        # Going from the left, only items that have been checked are followed.
        if not is_whole(item) or item not in distances_at(value, place):
            return False
    return True


def is_shape(value):
    """Whether the value is the shape of some row."""
    return is_shape_up_to(MAX_PLACES, value)


def leads_out(shape, place, first):
    """Whether the distance of the place is 0 or leads to a place before first."""
    return shape[place] == 0 or place - shape[place] < first


def least_of(shape, first, last):
    """The least place of the window in rows with this shape."""
    check_window(len(shape), first, last)
    least = first
    for place in range(first, last + 1):
        if leads_out(shape, place, first):
            least = place
    return least


def window_shape(shape, first, last):
    """The shape of the entries of the window alone."""
    check_window(len(shape), first, last)
    return tuple([0 if leads_out(shape, place, first) else shape[place]
                  for place in range(first, last + 1)])


def least_row(shape):
    """The row with this shape whose entries are from 0 on and as small as possible."""
    entries = [0 for place in range(len(shape))]
    # Only later places force an entry up, so from the right each one is settled
    # when it is reached.
    for place in range(len(shape) - 1, -1, -1):
        nearest = place - shape[place] if shape[place] > 0 else -1
        for between in range(nearest + 1, place):
            entries[between] = max(entries[between], entries[place] + 1)
    return tuple(entries)


def find_difference(one, other):
    """The first of the smallest windows with different least places, or None."""
    check_alike((one, other))
    many = len(one)
    for size in range(2, many + 1):
        for first in range(many - size + 1):
            last = first + size - 1
            if least_place(one, first, last) != least_place(other, first, last):
                return (first, last)
    return None
