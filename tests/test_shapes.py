"""Tests of leastplaces.shapes: points [3], [4] and [5], and guarantees (a) and (b) of [2]."""

import itertools
import unittest

from leastplaces.errors import NotAlike, NoWindow
from leastplaces.shapes import (
    find_difference, is_shape, least_of, least_row, shape_of, window_shape)
from samples import (
    LONG_ROWS, NOT_INTEGERS, NOT_TUPLES, TOP, all_shapes, changes, expected_place, expected_shape,
    has_some_row, is_plain, mixed_rows, nested_tuples, small_rows, windows)

ROWS = LONG_ROWS + (
    (0,), (-TOP,), (3, 1, 2, 1), (7, 7, 7), (2, 1, 0), (0, 1, 2), (TOP, -TOP, TOP), (-TOP, TOP, -TOP))
LONG_SHAPES = tuple(expected_shape(row) for row in LONG_ROWS)


def small_shapes(most):
    return [shape for many in range(1, most + 1) for shape in all_shapes(many)]


def all_rows_from_zero(many):
    """Enough of the rows from 0 on: greater entries can be lowered without a change of the order."""
    return small_rows(many, many)


class SamplesTest(unittest.TestCase):

    def test_rows_without_equal_entries_have_all_shapes(self):
        for many in range(1, 6):
            found = {expected_shape(row) for row in all_rows_from_zero(many)}
            self.assertEqual(tuple(sorted(found)), all_shapes(many))

    def test_some_row_is_found_for_each_shape_and_for_nothing_else(self):
        for many in range(1, 6):
            found = [item for item in itertools.product(range(-1, 6), repeat=many)
                     if has_some_row(item)]
            self.assertEqual(tuple(found), all_shapes(many))


class ShapeOfTest(unittest.TestCase):

    def check(self, row):
        shape = shape_of(row)
        self.assertEqual(shape, expected_shape(row), row)
        self.assertIs(type(shape), tuple)
        self.assertTrue(is_plain(shape), row)
        self.assertEqual(shape_of(row), shape)
        self.assertFalse(changes(shape_of, row))

    def test_example(self):
        self.assertEqual(
            [shape_of((3, 1, 2, 1)), shape_of((7, 7, 7)), shape_of((2, 1, 0))],
            [(0, 0, 1, 2), (0, 1, 1), (0, 0, 0)])

    def test_rows_by_the_definition(self):
        for row in ROWS:
            self.check(row)

    def test_rows_with_few_and_many_entries(self):
        for row in mixed_rows():
            self.check(row)

    def test_all_small_rows(self):
        for many in range(1, 7):
            for row in small_rows(many):
                self.check(row)

    def test_equal_falling_and_rising(self):
        for many in range(1, 13):
            ones = (0,) + (1,) * (many - 1)
            self.assertEqual(shape_of((7,) * many), ones)
            self.assertEqual(shape_of(tuple(range(many))), ones)
            self.assertEqual(shape_of(tuple(range(many, 0, -1))), (0,) * many)

    def test_entries_at_the_limits(self):
        for many in range(1, 6):
            for row in itertools.product((-TOP, -TOP + 1, TOP - 1, TOP), repeat=many):
                self.check(row)

    def test_an_equal_entry_is_not_greater(self):
        self.assertEqual(shape_of((1, 2, 1)), (0, 1, 2))
        self.assertEqual(shape_of((1, 2, 0)), (0, 1, 0))
        self.assertEqual(shape_of((5, 9, 9, 8, 5, 6)), (0, 1, 1, 3, 4, 1))

    def test_same_shape_and_same_least_places(self):
        # Guarantee (a), for all pairs of rows.
        for many, entries in ((1, 2), (2, 3), (3, 3), (4, 3)):
            told = [
                (shape_of(row), [expected_place(row, *window) for window in windows(many)])
                for row in small_rows(many, entries)]
            for one, other in itertools.product(told, repeat=2):
                self.assertEqual(one[0] == other[0], one[1] == other[1])


class IsShapeTest(unittest.TestCase):

    def check(self, value, expected):
        self.assertIs(is_shape(value), expected, value)
        self.assertIs(is_shape(value), expected, value)
        self.assertFalse(changes(is_shape, value))

    def test_example(self):
        self.assertEqual(
            [is_shape((0, 1, 2)), is_shape((0, 0, 2)), is_shape((1,)), is_shape(())],
            [True, False, False, False])

    def test_all_tuples_of_up_to_four_numbers(self):
        for many in range(5):
            shapes = {expected_shape(row) for row in small_rows(many, 4)} if many else set()
            for value in itertools.product(range(-1, 5), repeat=many):
                self.check(value, value in shapes)

    def test_all_small_shapes(self):
        for shape in small_shapes(7):
            self.check(shape, True)

    def test_one_item_replaced_added_or_removed(self):
        for shape in small_shapes(5) + list(LONG_SHAPES):
            many = len(shape)
            for place in range(many + 1):
                before, behind = shape[:place], shape[place:]
                for item in range(-1, many + 2):
                    if behind:
                        value = before + (item,) + behind[1:]
                        self.check(value, has_some_row(value))
                    value = before + (item,) + behind
                    self.check(value, many < 12 and has_some_row(value))
                if behind and many > 1:
                    value = before + behind[1:]
                    self.check(value, has_some_row(value))

    def test_shapes_of_twelve_places(self):
        for shape in LONG_SHAPES:
            self.check(shape, True)
        self.check(tuple(range(12)), True)
        self.check((0,) * 12, True)

    def test_more_than_twelve_places(self):
        for many in (13, 14, 60, 1000):
            self.check((0,) * many, False)
            self.check((0,) + (1,) * (many - 1), False)
            self.check(tuple(range(many)), False)

    def test_great_numbers(self):
        for item in (12, 13, -12, 10 ** 39, -10 ** 39):
            self.check((item,), False)
            self.check((0, item), False)
            self.check((0, 1, item, 0), False)
            self.check((0, item, 0, 1), False)

    def test_other_values_as_items(self):
        for item in NOT_INTEGERS + (nested_tuples(18),):
            self.check((item,), False)
            self.check((0, item), False)
            self.check((item, 0), False)
            self.check((0, 1, item, 1), False)
            self.check((0,) * 11 + (item,), False)

    def test_bools_in_the_place_of_equal_integers(self):
        self.check((False,), False)
        self.check((0, True), False)
        self.check((0, False), False)
        self.check((False, 1), False)
        self.check((0, 1, True), False)

    def test_other_values(self):
        for value in NOT_TUPLES + ([0, 1, 2], "0", "011", {"0": 0, "1": 1}, nested_tuples(19)):
            self.check(value, False)


class WindowTest(unittest.TestCase):

    def check_no_window(self, shape, first, last):
        for call in (least_of, window_shape):
            with self.assertRaises(NoWindow) as caught:
                call(shape, first, last)
            value = caught.exception.value
            self.assertIs(type(value), tuple)
            self.assertEqual(len(value), 2)
            self.assertIs(value[0], first)
            self.assertIs(value[1], last)
            self.assertFalse(changes(call, shape, first, last))

    def check_windows(self, row):
        shape = expected_shape(row)
        for first, last in windows(len(row)):
            told = least_of(shape, first, last)
            self.assertIs(type(told), int)
            self.assertEqual(told, expected_place(row, first, last), (row, first, last))
            part = window_shape(shape, first, last)
            self.assertIs(type(part), tuple)
            self.assertTrue(is_plain(part))
            self.assertEqual(part, expected_shape(row[first:last + 1]), (row, first, last))
            self.assertEqual(least_of(shape, first, last), told)
            self.assertEqual(window_shape(shape, first, last), part)
            self.assertFalse(changes(least_of, shape, first, last))
            self.assertFalse(changes(window_shape, shape, first, last))

    def test_examples(self):
        self.assertEqual([least_of((0, 0, 1, 2), 0, 3), least_of((0, 0, 1, 2), 2, 3)], [1, 3])
        self.assertEqual(
            [window_shape((0, 0, 1, 2), 1, 3), window_shape((0, 0, 1, 2), 2, 3)], [(0, 1, 2), (0, 0)])

    def test_all_windows_of_rows(self):
        for row in ROWS:
            self.check_windows(row)

    def test_all_windows_of_small_rows(self):
        for many in range(1, 6):
            for row in small_rows(many):
                self.check_windows(row)

    def test_first_behind_last(self):
        for shape in ((0, 0), LONG_SHAPES[3]):
            for first in range(len(shape)):
                for last in range(first):
                    self.check_no_window(shape, first, last)

    def test_places_outside(self):
        for shape in ((0,), (0, 1), (0, 0, 1, 2), LONG_SHAPES[3]):
            many = len(shape)
            for outside in (-1, -2, -many, -many - 1, many, many + 1, 10 ** 39, -10 ** 39):
                self.check_no_window(shape, outside, 0)
                self.check_no_window(shape, 0, outside)
                self.check_no_window(shape, outside, many - 1)
                self.check_no_window(shape, many - 1, outside)
                self.check_no_window(shape, outside, outside)

    def test_other_values(self):
        for value in NOT_INTEGERS + (nested_tuples(19), [1, {"a": []}]):
            self.check_no_window((0, 0, 1), value, 2)
            self.check_no_window((0, 0, 1), 0, value)
            self.check_no_window((0, 0, 1), 1, value)
            self.check_no_window((0, 0, 1), value, value)
            self.check_no_window((0,), value, 0)
            self.check_no_window((0,), 0, value)
            self.check_no_window((0,), -1, value)


class LeastRowTest(unittest.TestCase):

    def check(self, shape):
        row = least_row(shape)
        self.assertIs(type(row), tuple)
        self.assertTrue(is_plain(row) and None not in row)
        self.assertEqual(expected_shape(row), shape)
        self.assertGreaterEqual(min(row), 0)
        self.assertEqual(least_row(shape), row)
        self.assertFalse(changes(least_row, shape))
        return row

    def test_example(self):
        self.assertEqual(
            [least_row((0, 0, 1, 2)), least_row((0, 1, 1)), least_row((0, 0, 0))],
            [(1, 0, 1, 0), (0, 0, 0), (2, 1, 0)])

    def test_all_small_shapes(self):
        for many in range(1, 7):
            least = {}
            for row in all_rows_from_zero(many):
                shape = expected_shape(row)
                least[shape] = tuple(map(min, row, least.get(shape, row)))
            self.assertEqual(tuple(sorted(least)), all_shapes(many))
            for shape in least:
                self.assertEqual(self.check(shape), least[shape])

    def test_shapes_of_twelve_places(self):
        for shape in LONG_SHAPES:
            row = self.check(shape)
            # Each entry is 0, or one more than a later one that must be less.
            for place in range(12):
                must_be_less = [
                    row[later] for later in range(place + 1, 12)
                    if expected_place(row, place, later) == later]
                self.assertEqual(row[place], max(must_be_less) + 1 if must_be_less else 0)
        self.assertEqual(least_row((0,) * 12), tuple(range(11, -1, -1)))
        self.assertEqual(least_row((0,) + (1,) * 11), (0,) * 12)
        self.assertEqual(
            least_row(shape_of((5, 3, 8, 3, 9, 1, 1, 4, -2, 7, -2, 0))),
            (3, 2, 3, 2, 2, 1, 1, 1, 0, 1, 0, 0))


class FindDifferenceTest(unittest.TestCase):

    def expected(self, one, other):
        found = [
            (last - first, first, last) for first, last in windows(len(one))
            if expected_place(one, first, last) != expected_place(other, first, last)]
        return min(found)[1:] if found else None

    def check(self, one, other):
        told = find_difference(one, other)
        self.assertEqual(told, self.expected(one, other), (one, other))
        if told is None:
            self.assertEqual(expected_shape(one), expected_shape(other))
        else:
            self.assertTrue(is_plain(told) and type(told) is tuple)
            self.assertNotEqual(expected_shape(one), expected_shape(other))
        self.assertEqual(find_difference(one, other), told)
        self.assertFalse(changes(find_difference, one, other))

    def test_example(self):
        self.assertEqual(
            [find_difference((3, 1, 2), (3, 1, 0)), find_difference((3, 1, 2), (9, 0, 0))],
            [(1, 2), None])

    def test_equal_rows(self):
        for row in ROWS:
            self.assertIsNone(find_difference(row, row))

    def test_rows_with_the_same_shape(self):
        for row in ROWS:
            self.assertIsNone(find_difference(row, least_row(expected_shape(row))))
        self.assertIsNone(find_difference((5,), (-TOP,)))
        self.assertIsNone(find_difference((4,) * 12, tuple(range(12))))

    def test_one_window(self):
        self.assertEqual(find_difference((1, 2, 0), (1, 2, 1)), (0, 2))
        self.assertEqual(find_difference((0, 1), (1, 0)), (0, 1))
        row = (5,) * 11
        self.assertEqual(find_difference((5, *row), (5, *row[:10], 4)), (10, 11))
        self.assertEqual(find_difference((0, *row[:10], 0), (1, *row[:10], 0)), (0, 11))

    def test_several_windows_with_as_many_places(self):
        self.assertEqual(find_difference((1, 0, 1, 0), (0, 1, 0, 1)), (0, 1))
        self.assertEqual(find_difference((1, 2, 1, 2, 1, 2), (1, 2, 0, 2, 0, 2)), (0, 2))
        self.assertEqual(find_difference((5, 5, 6, 5, 6), (5, 5, 6, 4, 3)), (3, 4))

    def test_windows_of_different_sizes(self):
        # The window (0, 2) differs too, and it starts before the one found.
        self.assertEqual(find_difference((1, 2, 0, 9, 9), (1, 2, 1, 9, 8)), (3, 4))
        self.assertEqual(expected_place((1, 2, 0, 9, 9), 0, 2), 2)
        self.assertEqual(expected_place((1, 2, 1, 9, 8), 0, 2), 0)

    def test_all_pairs_of_small_rows(self):
        for one, other in itertools.product(small_rows(4), repeat=2):
            self.check(one, other)
        for one, other in itertools.product(itertools.permutations(range(4)), repeat=2):
            self.check(one, other)

    def test_pairs_of_long_rows(self):
        for one, other in itertools.product(LONG_ROWS, repeat=2):
            self.check(one, other)

    def test_not_alike(self):
        for one, other in (((0,), (0, 1)), ((0, 1), (0,)), (LONG_ROWS[0], LONG_ROWS[0][:11]),
                           ((3, 1, 2), (3, 1)), ((5,), LONG_ROWS[1])):
            with self.assertRaises(NotAlike) as caught:
                find_difference(one, other)
            self.assertIs(type(caught.exception.index), int)
            self.assertEqual(caught.exception.index, 1)
            self.assertFalse(changes(find_difference, one, other))


if __name__ == "__main__":
    unittest.main()
