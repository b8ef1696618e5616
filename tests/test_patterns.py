"""Tests of leastplaces.patterns: points [3] and [12]."""

import inspect
import itertools
import unittest

from leastplaces.errors import NoIndex
from leastplaces.patterns import count_matches, each_match, match_at, matches
from samples import (
    LONG_ROWS, NOT_INTEGERS, TOP, answer_of, expected_shape, is_plain, mixed_rows, nested_tuples,
    refused, small_rows, steady)

FAR = 10 ** 12

LONG_TEXT = tuple((place * place * 7 + place * 3) % 11 - 5 for place in range(60))
TEXTS = (
    (0,), (TOP,), (5, 1, 4, 2, 8, 3), (1,) * 60, tuple(range(60)), tuple(range(60, 0, -1)),
    (0, 1) * 30, (TOP, -TOP, 0) * 20, LONG_TEXT)


def expected_matches(text, pattern):
    """The places of all parts of the text that are as long as the pattern and have its shape."""
    many = len(pattern)
    return tuple(
        place for place in range(len(text)) if place + many <= len(text)
        and expected_shape(text[place:place + many]) == expected_shape(pattern))


class MatchesTest(unittest.TestCase):

    def check(self, text, pattern):
        expected = expected_matches(text, pattern)
        told = steady(self, matches, text, pattern)
        self.assertTrue(type(told) is tuple and is_plain(told))
        self.assertEqual(told, expected, (text, pattern))
        found = steady(self, lambda text, pattern: list(each_match(text, pattern)), text, pattern)
        self.assertTrue(is_plain(tuple(found)))
        self.assertEqual(tuple(found), expected)

    def test_example(self):
        self.assertEqual(
            [matches((5, 1, 4, 2, 8, 3), (7, 0, 9)), list(each_match((1, 1, 1), (4, 4)))],
            [(0, 2), [0, 1]])

    def test_small_texts_and_patterns(self):
        patterns = [row for many in range(1, 4) for row in small_rows(many)]
        for many in range(1, 6):
            for text in small_rows(many, 3 if many < 5 else 2):
                for pattern in patterns:
                    self.check(text, pattern)

    def test_long_texts(self):
        for text in TEXTS:
            for pattern in mixed_rows()[::7] + list(LONG_ROWS):
                self.check(text, pattern)

    def test_one_entry(self):
        self.assertEqual(matches((5,), (-TOP,)), (0,))
        self.assertEqual(matches((5,), (1, 2)), ())
        self.assertEqual(matches((TOP,) * 60, (0,)), tuple(range(60)))

    def test_a_pattern_longer_than_the_text(self):
        for many in range(1, 12):
            for row in LONG_ROWS:
                self.assertEqual(matches(row[:many], row), ())
                self.assertEqual(list(each_match(row[:many], row[:many + 1])), [])
                self.assertEqual(matches(row[:many], row[:many]), (0,))

    def test_all_places(self):
        self.assertEqual(matches((1,) * 60, (4,) * 12), tuple(range(49)))
        self.assertEqual(matches((1,) * 60, tuple(range(12))), tuple(range(49)))
        self.assertEqual(matches(tuple(range(60)), (3, 3)), tuple(range(59)))
        self.assertEqual(matches(tuple(range(60, 0, -1)), (3, 2)), tuple(range(59)))

    def test_the_first_and_the_last_place(self):
        text = (2, 1) + (1,) * 56 + (1, 0)
        self.assertEqual(matches(text, (1, 0)), (0, 58))
        for row in LONG_ROWS:
            self.assertIn(0, matches(row + (0,) * 48, row))
            self.assertIn(48, matches((0,) * 48 + row, row))

    def test_equal_entries(self):
        # An equal entry is not greater, so it has the shape of a rise.
        self.assertEqual(matches((4, 4, 5, 3, 3), (0, 1)), (0, 1, 3))
        self.assertEqual(matches((4, 4, 5, 3, 3), (1, 0)), (2,))

    def test_it_is_a_generator(self):
        self.assertTrue(inspect.isgenerator(each_match((1, 2), (1,))))

    def test_again_after_it_was_left_early(self):
        whole = list(each_match(LONG_TEXT, (1, 0)))
        self.assertGreater(len(whole), 20)
        for many in range(len(whole) + 1):
            self.assertEqual(list(itertools.islice(each_match(LONG_TEXT, (1, 0)), many)), whole[:many])
            self.assertEqual(list(each_match(LONG_TEXT, (1, 0))), whole)

    def test_two_at_the_same_time(self):
        pairs = list(zip(each_match(LONG_TEXT, (0, 1)), each_match(LONG_TEXT, (0, 1))))
        self.assertEqual(pairs, [(place, place) for place in matches(LONG_TEXT, (0, 1))])


class FarTextTest(unittest.TestCase):

    def check(self, block, times, pattern):
        expected = expected_matches(block * times, pattern)
        told = steady(self, count_matches, block, times, pattern)
        self.assertIs(type(told), int)
        self.assertEqual(told, len(expected), (block, times, pattern))
        for index in {0, 1, len(expected) // 2, len(expected) - 2, len(expected) - 1}:
            if 0 <= index < len(expected):
                place = steady(self, match_at, block, times, pattern, index)
                self.assertIs(type(place), int)
                self.assertEqual(place, expected[index], (block, times, pattern, index))
        self.check_no_index(block, times, pattern, len(expected))
        self.check_no_index(block, times, pattern, -1)
        return expected

    def check_no_index(self, block, times, pattern, index):
        error = refused(self, NoIndex, match_at, block, times, pattern, index)
        self.assertIs(error.value, index)

    def test_example(self):
        self.assertEqual(
            [count_matches((5, 1), 10 ** 12, (1, 0)), count_matches((5, 1), 10 ** 12, (0, 1, 0)),
             match_at((5, 1), 10 ** 12, (0, 1), 10 ** 11)],
            [1000000000000, 999999999999, 200000000001])

    def test_small_blocks_and_patterns(self):
        patterns = [row for many in range(1, 5) for row in small_rows(many, 2)]
        for many in range(1, 5):
            for block in small_rows(many, 3 if many < 4 else 2):
                for pattern in patterns:
                    for times in (1, 2, 3):
                        self.check(block, times, pattern)

    def test_up_to_twenty_blocks(self):
        blocks = [(7,), (5, 1), (1, 5), (3, 1, 2), (2, 2, 1, 3, 1), LONG_ROWS[3], LONG_ROWS[0]]
        patterns = [(0,), (1, 0), (0, 1, 0), (2, 1, 3, 1), LONG_ROWS[3], LONG_ROWS[4], (4,) * 12]
        for block in blocks:
            for times in range(1, 21):
                for pattern in patterns:
                    self.check(block, times, pattern)

    def test_all_indexes(self):
        for block, times, pattern in (((5, 1), 20, (1, 0)), ((3, 1, 2), 7, (0, 1)), ((4,), 20, (0,) * 12)):
            expected = self.check(block, times, pattern)
            told = tuple(match_at(block, times, pattern, index) for index in range(len(expected)))
            self.assertEqual(told, expected)

    def test_blocks_of_twelve_places(self):
        for block in LONG_ROWS:
            for pattern in LONG_ROWS:
                for times in (1, 2, 3):
                    self.check(block, times, pattern)

    def test_a_pattern_longer_than_the_block(self):
        self.check((3, 1), 6, (3, 1) * 6)
        self.check((3, 1), 5, (3, 1) * 6)
        self.check((3,), 12, (3,) * 12)
        self.check((3,), 13, (3,) * 12)
        self.assertEqual(count_matches((3,), 11, (3,) * 12), 0)
        self.assertEqual(count_matches((3,), 12, (3,) * 12), 1)
        self.assertEqual(count_matches((3, 1), FAR, (9, 0) * 6), FAR - 5)

    def test_a_pattern_longer_than_the_far_text(self):
        for times in range(1, 12):
            self.assertEqual(self.check((1,), times, tuple(range(12))), ())
        self.assertEqual(self.check((2, 1, 3), 3, LONG_ROWS[0]), ())

    def test_a_pattern_that_does_not_match(self):
        self.assertEqual(count_matches((1, 1), FAR, (1, 0)), 0)
        self.check_no_index((1, 1), FAR, (1, 0), 0)
        # It would match only between two blocks.
        self.assertEqual(self.check((0, 1), 1, (1, 0)), ())
        self.assertEqual(self.check((0, 1), 2, (1, 0)), (1,))

    def test_very_many_blocks(self):
        self.assertEqual(count_matches((7,), FAR, (3,)), FAR)
        self.assertEqual(count_matches((7,), FAR, (3, 3)), FAR - 1)
        self.assertEqual(match_at((7,), FAR, (3, 3), FAR - 2), FAR - 2)
        self.check_no_index((7,), FAR, (3, 3), FAR - 1)
        for block in LONG_ROWS:
            for pattern in ((0,), (0, 1), (1, 0), (1, 0, 1), block):
                many = count_matches(block, FAR, pattern)
                few = expected_matches(block * 20, pattern)
                # Each further block has as many matches as the ones before.
                each = len(few) - len(expected_matches(block * 19, pattern))
                self.assertEqual(many, len(few) + each * (FAR - 20))
                for index, place in enumerate(few[:5]):
                    self.assertEqual(match_at(block, FAR, pattern, index), place)
                if few:
                    self.assertEqual(
                        match_at(block, FAR, pattern, many - 1), few[-1] + 12 * (FAR - 20))
                self.check_no_index(block, FAR, pattern, many)
                self.check_no_index(block, FAR, pattern, -1)

    def test_very_many_blocks_without_delay(self):
        told = answer_of(
            "from leastplaces.patterns import count_matches, match_at\n"
            "print(count_matches((3, 1, 2), 10 ** 12, (0, 1)),"
            " match_at((3, 1, 2), 10 ** 12, (0, 1), 2 * 10 ** 12 - 2))", 10)
        # Of (3, 1, 2) only the step from 3 to 1 falls.
        self.assertEqual(told, f"{2 * FAR - 1} {3 * FAR - 2}")

    def test_no_index(self):
        for index in NOT_INTEGERS + (nested_tuples(19), -1, -2, 20, 21, 10 ** 39, -10 ** 39, [0], "0"):
            self.check_no_index((5, 1), 20, (1, 0), index)
        for index in (True, False):
            self.check_no_index((5, 1), FAR, (1, 0), index)


if __name__ == "__main__":
    unittest.main()
