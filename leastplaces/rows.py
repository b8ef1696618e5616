"""Rows, their windows, and the least places of these."""

from leastplaces.bounds import MAX_ENTRY, MAX_PLACES
from leastplaces.errors import NotAlike, NoRows, NoWindow


def is_whole(value):
    """Whether the value is an integer; a bool is not one."""
    return isinstance(value, int) and not isinstance(value, bool)


def is_entry(value):
    """Whether the value can stand in a row."""
    return is_whole(value) and -MAX_ENTRY <= value <= MAX_ENTRY


def is_place(many, value):
    """Whether the value is a place of rows with so many places."""
    return is_whole(value) and 0 <= value < many


def is_window(many, first, last):
    """Whether two values give a window of rows with so many places."""
    return is_place(many, first) and is_place(many, last) and first <= last


def check_window(many, first, last):
    """Raise the error of two values that give no window."""
    if not is_window(many, first, last):
        raise NoWindow((first, last))


def row_error(value):
    """None for a row, otherwise what is wrong first and where."""
    if not isinstance(value, tuple) or not 1 <= len(value) <= MAX_PLACES:
        return (None, "row")
    for place, item in enumerate(value):
        if not is_entry(item):
            return (place, "entry")
    return None


def is_row(value):
    """Whether the value is a row."""
    return row_error(value) is None


def least_place(row, first, last):
    """The lowest place of the window with its least entry."""
    check_window(len(row), first, last)
    least = first
    for place in range(first + 1, last + 1):
        # Only a smaller entry counts, so the first of equal ones stays.
        if row[place] < row[least]:
            least = place
    return least


def check_alike(rows):
    """Raise the error of rows that cannot be compared window by window."""
    if len(rows) == 0:
        raise NoRows()
    for index, row in enumerate(rows):
        if len(row) != len(rows[0]):
            raise NotAlike(index)


def claims_of(*rows):
    """All (first, last, place) of two or more places that hold for all rows."""
    check_alike(rows)
    many = len(rows[0])
    found = []
    for first in range(many):
        for last in range(first + 1, many):
            place = least_place(rows[0], first, last)
            if all([least_place(row, first, last) == place for row in rows]):
                found.append((first, last, place))
    return tuple(found)
