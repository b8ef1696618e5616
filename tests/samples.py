"""Values and definitions that the tests of several modules use.

What stands here is written from the document's definitions, not from the
package, so that the package can be held against it.
"""

import copy
import functools
import itertools
import os
import pathlib
import subprocess
import sys

ROOT = pathlib.Path(__file__).resolve().parent.parent

TOP = 10 ** 9

# Values that are no integers, also those that look like one or equal one.
NOT_INTEGERS = (
    None, True, False, "", "0", "1", "a\nb", (), (0,), (1, 2), [], [0], [[1], {}],
    {}, {"a": 1}, {"0": [0, (1, None)]},
)

# Values that are no tuples, also those that have items like one.
NOT_TUPLES = (
    None, True, False, 0, 1, -1, 10 ** 39, "", "0", "01", "012", [], [0], [0, 1], [[0]],
    [[], []], [(), ()], {}, {"0": 0}, {"a": (0, 1)}, {"a": (), "b": ()},
)

# Shapes of 12 places, with their rows.
LONG_ROWS = (
    tuple(range(12)), tuple(range(12, 0, -1)), (4,) * 12,
    (5, 3, 8, 3, 9, 1, 1, 4, -2, 7, -2, 0), (0, 1) * 6, (1, 0) * 6,
    (TOP, -TOP) * 6, (6, 5, 4, 3, 2, 1, 1, 2, 3, 4, 5, 6), (1, 2, 3, 4, 5, 6, 6, 5, 4, 3, 2, 1),
    (7, 3, 9, 1, 8, 2, 2, 8, 1, 9, 3, 7), (0, 9, 5, 7, 6, 8, 2, 4, 3, 1, 1, 0),
)


def changes(call, *values):
    """Whether a call changes its arguments, also if it raises an error."""
    before = copy.deepcopy(values)
    try:
        call(*values)
    except (ValueError, LookupError):
        pass
    return repr(values) != repr(before)


def windows(many):
    return [(first, last) for first in range(many) for last in range(first, many)]


def expected_place(row, first, last):
    """The least place of a window by its definition."""
    window = row[first:last + 1]
    return first + window.index(min(window))


def expected_shape(row):
    """The shape of a row by its definition, going through all earlier entries."""
    shape = []
    for place, entry in enumerate(row):
        earlier = [other for other in range(place) if row[other] <= entry]
        shape.append(place - max(earlier) if earlier else 0)
    return tuple(shape)


def small_rows(many, entries=3):
    return list(itertools.product(range(entries), repeat=many))


@functools.lru_cache(maxsize=None)
def all_shapes(many):
    """All shapes with so many places, ascending.

    Rows without equal entries have all shapes: of equal entries the later one
    can be made greater.
    """
    return tuple(sorted({expected_shape(row) for row in itertools.permutations(range(many))}))


def has_some_row(distances):
    """Whether integers are the shape of some row of as many places.

    Each place is put just above the one to which its distance leads, or below
    all others. If any row has the shape, this one has it.
    """
    order = []
    for place, distance in enumerate(distances):
        if not 0 <= distance <= place:
            return False
        order.insert(order.index(place - distance) + 1 if distance else 0, place)
    row = [order.index(place) for place in range(len(distances))]
    return expected_shape(row) == tuple(distances)


def mixed_rows():
    """Rows of 1 to 12 places with few and with many different entries."""
    rows = []
    for many in range(1, 13):
        for entries, by, shift in itertools.product((2, 3, 5, 13), (1, 3, 7), range(5)):
            rows.append(tuple(
                (place * place * by + place * shift + many) % entries for place in range(many)))
    return rows


def is_plain(value):
    """Whether a value consists of tuples, integers and None only; a bool is no integer."""
    if type(value) is tuple:
        return all(is_plain(item) for item in value)
    return value is None or type(value) is int


def nested_tuples(depth):
    value = ()
    for _ in range(depth):
        value = (value,)
    return value


def answer_of(code, seconds=60):
    """What a program prints; fails if it does not end in time."""
    done = subprocess.run(
        [sys.executable, "-c", code], env={**os.environ, "PYTHONPATH": str(ROOT)},
        capture_output=True, text=True, timeout=seconds, check=True)
    return done.stdout.strip()


def steady(test, call, *values):
    """The result of a call that must change nothing and tell the same twice."""
    before = repr(values)
    result = call(*values)
    test.assertEqual(repr(values), before)
    again = call(*values)
    test.assertEqual((again, type(again)), (result, type(result)))
    return result


def refused(test, kind, call, *values):
    """The error of a call that must raise it twice and change nothing."""
    before = repr(values)
    for _ in range(2):
        with test.assertRaises(kind) as caught:
            call(*values)
        test.assertIs(type(caught.exception), kind)
    test.assertEqual(repr(values), before)
    return caught.exception


def all_claims(many):
    """All claims for rows with so many places."""
    return [(first, last, place) for first, last in windows(many) for place in range(first, last + 1)]


def holds_for(row, claim):
    first, last, place = claim
    return expected_place(row, first, last) == place


def fulfils(row, claims):
    return all(holds_for(row, claim) for claim in claims)


def claims_about(row, many):
    """So many claims that hold for a row, about windows of all sizes, some of them equal."""
    found = windows(len(row))
    picked = [found[(index * 29) % len(found)] for index in range(many)]
    return tuple((first, last, expected_place(row, first, last)) for first, last in picked)


def mixed_claims(many, size, by):
    """So many claims for rows with size places that do not come from a row."""
    found = all_claims(size)
    return tuple(found[(index * index * by + 7 * index + by) % len(found)] for index in range(many))


# Values that are no claims for rows with 3 places, though many of them look like one.
NOT_CLAIMS = (
    (), (0,), (0, 2), (0, 2, 1, 1), [0, 2, 1], "021", (0, 2, -1), (0, 2, 3), (-1, 2, 1), (0, 3, 1),
    (1, 2, 0), (0, 1, 2), (2, 0, 1), (2, 1, 1), (3, 3, 3), (-1, -1, -1), (False, 2, 1), (0, True, 1),
    (0, 2, True), (0, 2, False), (True, True, True), (0, 2, None), (None, 2, 1), (0, "2", 1),
    (0, [2], 1), (0, (2,), 1), ((0, 2, 1),), (0, 10 ** 39, 1), (0, 2, -10 ** 39), {"a": (0, 2, 1)},
)
