"""Tests of leastplaces.rows: points [3] and [4]."""

import itertools
import unittest

from leastplaces.errors import NoRows, NotAlike, NoWindow
from leastplaces.rows import claims_of, is_row, least_place, row_error
from samples import (
    NOT_INTEGERS, NOT_TUPLES, TOP, changes, expected_place, small_rows, windows)

LONG = (5, 3, 8, 3, 9, 1, 1, 4, -2, 7, -2, 0)

ROWS = (
    (0,), (-7,), (TOP,), (-TOP,), (3, 1, 2, 1), (7, 7, 7), (2, 1, 0), (0, 1, 2),
    (TOP, -TOP), (-TOP, TOP, -TOP), tuple(range(12)), (4,) * 12, LONG,
)


def expected_claims(rows):
    found = []
    for first, last in windows(len(rows[0])):
        places = {expected_place(row, first, last) for row in rows}
        if first < last and len(places) == 1:
            found.append((first, last, places.pop()))
    return tuple(sorted(found))


class RowErrorTest(unittest.TestCase):

    def check(self, value, error):
        self.assertEqual(row_error(value), error, value)
        self.assertIs(is_row(value), error is None, value)
        # 1 == True, so the place is checked to be an integer too.
        if error is not None and error[0] is not None:
            self.assertIs(type(row_error(value)[0]), int, value)
            self.assertIs(type(row_error(value)), tuple, value)

    def test_example(self):
        self.assertEqual(
            [is_row((3, 1, 2, 1)), is_row(()), row_error((0, True)), row_error([0])],
            [True, False, (1, "entry"), (None, "row")])

    def test_rows(self):
        for row in ROWS:
            self.check(row, None)
            self.assertIsNone(row_error(row))

    def test_numbers_of_places(self):
        self.check((), (None, "row"))
        for many in range(1, 13):
            self.check((0,) * many, None)
        for many in (13, 14, 60, 1000):
            self.check((0,) * many, (None, "row"))

    def test_length_comes_before_entries(self):
        self.check((None,) * 13, (None, "row"))
        self.check((TOP + 1,) + (0,) * 12, (None, "row"))

    def test_limits_of_entries(self):
        self.check((TOP, -TOP), None)
        self.check((TOP + 1,), (0, "entry"))
        self.check((-TOP - 1,), (0, "entry"))
        self.check((0, TOP + 1), (1, "entry"))
        self.check((0, 0, -TOP - 1), (2, "entry"))
        self.check((10 ** 39, 0), (0, "entry"))

    def test_other_values_as_entries(self):
        for value in NOT_INTEGERS:
            self.check((value,), (0, "entry"))
            self.check((0, value, 0), (1, "entry"))
            self.check((0,) * 11 + (value,), (11, "entry"))

    def test_first_wrong_entry(self):
        self.check((0, None, True), (1, "entry"))
        self.check((0, 1, False, TOP + 1, "a"), (2, "entry"))
        self.check((True, None), (0, "entry"))
        self.check((0, -TOP - 1, [], 0, True), (1, "entry"))

    def test_other_values(self):
        for value in NOT_TUPLES:
            self.check(value, (None, "row"))

    def test_tuples_of_rows_and_texts(self):
        self.check(((0, 1), (1, 0)), (0, "entry"))
        self.check(("0", "1"), (0, "entry"))

    def test_arguments_stay_and_calls_repeat(self):
        for value in NOT_TUPLES + ROWS + tuple((0, value) for value in NOT_INTEGERS):
            self.assertFalse(changes(is_row, value), value)
            self.assertFalse(changes(row_error, value), value)
            self.assertEqual(is_row(value), is_row(value))
            self.assertEqual(row_error(value), row_error(value))


class LeastPlaceTest(unittest.TestCase):

    def check_window(self, row, first, last):
        place = least_place(row, first, last)
        self.assertIs(type(place), int)
        self.assertEqual(place, expected_place(row, first, last), (row, first, last))
        self.assertEqual(place, least_place(row, first, last))

    def check_no_window(self, row, first, last):
        for _ in range(2):
            with self.assertRaises(NoWindow) as caught:
                least_place(row, first, last)
            value = caught.exception.value
            self.assertIs(type(value), tuple)
            self.assertEqual(len(value), 2)
            self.assertIs(value[0], first)
            self.assertIs(value[1], last)

    def test_examples(self):
        self.assertEqual(
            [least_place((3, 1, 2, 1), 0, 3), least_place((3, 1, 2, 1), 2, 3)], [1, 3])
        with self.assertRaises(NoWindow) as caught:
            least_place((3, 1), 1, 0)
        self.assertEqual(caught.exception.value, (1, 0))

    def test_all_windows(self):
        for row in ROWS:
            for first, last in windows(len(row)):
                self.check_window(row, first, last)

    def test_all_windows_of_small_rows(self):
        for many in range(1, 6):
            for row in small_rows(many):
                for first, last in windows(len(row)):
                    self.check_window(row, first, last)

    def test_first_of_equal_entries(self):
        for first, last in windows(12):
            self.assertEqual(least_place((4,) * 12, first, last), first)
        self.assertEqual(least_place((2, 0, 1, 0, 0), 0, 4), 1)
        self.assertEqual(least_place((2, 0, 1, 0, 0), 2, 4), 3)

    def test_windows_of_one_place(self):
        for place in range(12):
            self.assertEqual(least_place(LONG, place, place), place)

    def test_first_behind_last(self):
        for first in range(12):
            for last in range(first):
                self.check_no_window(LONG, first, last)

    def test_places_outside(self):
        for row in ((5,), (3, 1), LONG):
            many = len(row)
            for outside in (-1, -2, -many, -many - 1, many, many + 1, 10 ** 39, -10 ** 39):
                self.check_no_window(row, outside, 0)
                self.check_no_window(row, 0, outside)
                self.check_no_window(row, outside, many - 1)
                self.check_no_window(row, many - 1, outside)
                self.check_no_window(row, outside, outside)

    def test_other_values(self):
        for value in NOT_INTEGERS:
            self.check_no_window((3, 1, 2), value, 2)
            self.check_no_window((3, 1, 2), 0, value)
            self.check_no_window((3, 1, 2), 1, value)
            self.check_no_window((3, 1, 2), value, value)
            self.check_no_window((5,), value, 0)

    def test_bools_are_no_places(self):
        self.check_no_window((3, 1), False, 1)
        self.check_no_window((3, 1), 0, True)
        self.check_no_window((3, 1), False, True)
        self.check_no_window((3, 1), True, True)
        self.check_no_window((5,), False, False)

    def test_the_field_holds_the_passed_objects(self):
        first, last = [1, {"a": []}], {"b": (2,)}
        self.check_no_window((3, 1), first, last)
        self.assertEqual((first, last), ([1, {"a": []}], {"b": (2,)}))

    def test_arguments_stay(self):
        for row in ROWS:
            for value in NOT_INTEGERS + (0, 1, -1):
                self.assertFalse(changes(least_place, row, value, 0))
                self.assertFalse(changes(least_place, row, 0, value))


class ClaimsOfTest(unittest.TestCase):

    def check(self, *rows):
        found = claims_of(*rows)
        self.assertIs(type(found), tuple)
        self.assertEqual(found, expected_claims(rows), rows)
        for claim in found:
            self.assertEqual([type(part) for part in (claim, *claim)], [tuple, int, int, int])
        self.assertEqual(list(found), sorted(set(found)))
        self.assertEqual(found, claims_of(*rows))
        self.assertFalse(changes(claims_of, *rows))

    def check_not_alike(self, index, *rows):
        with self.assertRaises(NotAlike) as caught:
            claims_of(*rows)
        self.assertIs(type(caught.exception.index), int)
        self.assertEqual(caught.exception.index, index)

    def test_example(self):
        self.assertEqual(
            [claims_of((3, 1, 2)), claims_of((3, 1, 2), (0, 5, 6))],
            [((0, 1, 1), (0, 2, 1), (1, 2, 1)), ((1, 2, 1),)])

    def test_one_row(self):
        for row in ROWS:
            self.check(row)
        for many in range(1, 6):
            for row in small_rows(many):
                self.check(row)

    def test_one_row_has_a_claim_for_each_window(self):
        self.assertEqual(len(claims_of(LONG)), 66)

    def test_one_place(self):
        self.assertEqual(claims_of((5,)), ())
        self.assertEqual(claims_of((5,), (-TOP,), (5,)), ())

    def test_two_rows(self):
        for one, other in itertools.product(small_rows(3), repeat=2):
            self.check(one, other)
        self.check(LONG, tuple(reversed(LONG)))
        self.check(LONG, tuple(range(12)))

    def test_more_rows(self):
        for rows in itertools.product(small_rows(3, 2), repeat=3):
            self.check(*rows)
        self.check(LONG, (4,) * 12, tuple(range(12)), LONG)
        self.check(*small_rows(4))

    def test_all_rows_count(self):
        # Only the last row, and only the middle one, differ from the others.
        self.assertEqual(claims_of((0, 1), (0, 1), (1, 0)), ())
        self.assertEqual(claims_of((0, 1), (1, 0), (0, 1)), ())
        self.assertEqual(claims_of((0, 1), (0, 0), (5, 9)), ((0, 1, 0),))

    def test_no_rows(self):
        with self.assertRaises(NoRows):
            claims_of()

    def test_not_alike(self):
        self.check_not_alike(1, (0,), (0, 1))
        self.check_not_alike(1, (0, 1), (0,))
        self.check_not_alike(2, (0, 1), (5, 5), (0, 1, 2))
        self.check_not_alike(3, LONG, LONG, LONG, LONG[:11], LONG)

    def test_first_row_that_is_not_alike(self):
        self.check_not_alike(1, (0,), (0, 1), (0, 1, 2), (0,))
        self.check_not_alike(1, (0, 1), (0,), (0,), (0,))
        self.check_not_alike(2, (0, 1), (1, 0), (0,), (1, 0), (0,))


if __name__ == "__main__":
    unittest.main()
