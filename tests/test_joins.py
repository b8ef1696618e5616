"""Tests of leastplaces.joins: points [3] and [7], and guarantee (c) of [2]."""

import functools
import inspect
import itertools
import math
import unittest

from leastplaces.errors import BadTargets
from leastplaces.joins import count_joins, each_join, falls, join, rises, targets_of
from samples import (
    LONG_ROWS, NOT_INTEGERS, NOT_TUPLES, all_shapes, expected_shape, has_some_row, is_plain,
    nested_tuples, refused, small_rows, steady)

LONG_SHAPES = tuple(expected_shape(row) for row in LONG_ROWS)


def expected_falls(row):
    return tuple(at for at in range(len(row)) if all(entry > row[at] for entry in row[:at]))


def expected_rises(row):
    return tuple(at for at in range(len(row)) if all(entry >= row[at] for entry in row[at:]))


def expected_targets(row, many):
    """For each fall of the places from many on the nearest place before them that is not greater."""
    targets = []
    for fall in expected_falls(row[many:]):
        found = [at for at in range(many) if row[at] <= row[many + fall]]
        targets.append(max(found) if found else None)
    return tuple(targets)


@functools.lru_cache(maxsize=None)
def joined_rows(most):
    """For each pair of shapes the shapes and targets of all rows side by side.

    Rows without equal entries are enough: of equal entries the later one can be
    made greater.
    """
    found = {}
    for size in range(2, most + 1):
        for row in itertools.permutations(range(size)):
            for many in range(1, size):
                pair = (expected_shape(row[:many]), expected_shape(row[many:]))
                joins = found.setdefault(pair, {})
                joins[expected_targets(row, many)] = expected_shape(row)
    return found


class FallsAndRisesTest(unittest.TestCase):

    def check(self, row):
        shape = expected_shape(row)
        self.assertEqual(steady(self, falls, shape), expected_falls(row), row)
        self.assertEqual(steady(self, rises, shape), expected_rises(row), row)
        for told in (falls(shape), rises(shape)):
            self.assertTrue(type(told) is tuple and is_plain(told))

    def test_example(self):
        self.assertEqual([falls((0, 0, 1, 2)), rises((0, 0, 1, 2))], [(0, 1), (1, 3)])

    def test_all_small_shapes(self):
        for many in range(1, 7):
            rows = {expected_shape(row): row for row in itertools.permutations(range(many))}
            self.assertEqual(tuple(sorted(rows)), all_shapes(many))
            for row in rows.values():
                self.check(row)

    def test_rows_with_equal_entries(self):
        for many in range(1, 7):
            for row in small_rows(many):
                self.check(row)

    def test_twelve_places(self):
        for row in LONG_ROWS:
            self.check(row)
        self.assertEqual(falls((0,) * 12), tuple(range(12)))
        self.assertEqual(rises((0,) * 12), (11,))
        self.assertEqual(falls((0,) + (1,) * 11), (0,))
        self.assertEqual(rises((0,) + (1,) * 11), tuple(range(12)))

    def test_one_place(self):
        self.assertEqual((falls((0,)), rises((0,))), ((0,), (0,)))


class JoinTest(unittest.TestCase):

    def check_bad(self, one, other, targets):
        error = refused(self, BadTargets, join, one, other, targets)
        self.assertIs(error.value, targets)

    def test_examples(self):
        self.assertEqual(
            [join((0,), (0, 0), (0, None)), join((0,), (0, 0), (None, None))], [(0, 1, 0), (0, 0, 0)])
        error = refused(self, BadTargets, join, (0,), (0, 0), (None, 0))
        self.assertEqual(error.value, (None, 0))

    def test_all_small_pairs_and_targets(self):
        for (one, other), joins in joined_rows(6).items():
            for targets, shape in joins.items():
                told = steady(self, join, one, other, targets)
                self.assertTrue(type(told) is tuple and is_plain(told))
                self.assertEqual(told, shape, (one, other, targets))

    def test_all_pairs_occur(self):
        pairs = [
            (one, other) for many in range(1, 6) for one in all_shapes(many)
            for rest in range(1, 7 - many) for other in all_shapes(rest)]
        self.assertEqual(sorted(joined_rows(6)), sorted(pairs))

    def test_rows_side_by_side_with_equal_entries(self):
        for row in small_rows(6):
            for many in range(1, 6):
                one, other = expected_shape(row[:many]), expected_shape(row[many:])
                self.assertEqual(
                    join(one, other, expected_targets(row, many)), expected_shape(row))

    def test_twelve_places_together(self):
        for row in LONG_ROWS:
            for many in range(1, 12):
                one, other = expected_shape(row[:many]), expected_shape(row[many:])
                self.assertEqual(
                    join(one, other, expected_targets(row, many)), expected_shape(row))

    def test_all_tuples_that_are_no_targets(self):
        for (one, other), joins in joined_rows(4).items():
            items = [None] + list(range(-1, len(one) + 2))
            for many in range(len(other) + 2):
                for value in itertools.product(items, repeat=many):
                    if value not in joins:
                        self.check_bad(one, other, value)

    def test_one_item_replaced_removed_added_or_exchanged(self):
        for (one, other), joins in joined_rows(5).items():
            for targets in joins:
                changed = []
                for at in range(len(targets) + 1):
                    before, behind = targets[:at], targets[at:]
                    for item in [None] + list(range(-1, len(one) + 1)):
                        changed += [before + (item,) + behind, before + (item,) + behind[1:]]
                    changed += [before + behind[1:], before + behind[::-1]]
                for value in changed:
                    if value not in joins:
                        self.check_bad(one, other, value)

    def test_a_none_before_a_place(self):
        self.check_bad((0, 1), (0, 0), (None, 0))
        self.check_bad((0, 1), (0, 0), (None, 1))
        self.check_bad((0, 1), (0, 0, 0), (1, None, 0))

    def test_a_rising_pair(self):
        self.check_bad((0, 1), (0, 0), (0, 1))
        self.check_bad((0, 1, 1), (0, 0, 0), (2, 0, 1))
        self.assertEqual(join((0, 1), (0, 0), (0, 0)), (0, 1, 2, 3))
        self.assertEqual(join((0, 1), (0, 0), (1, 0)), (0, 1, 1, 3))

    def test_places_that_are_no_rises(self):
        self.check_bad((0, 0), (0,), (0,))
        self.check_bad((0, 1, 2), (0,), (1,))
        self.assertEqual(join((0, 1, 2), (0,), (0,)), (0, 1, 2, 3))

    def test_bools(self):
        self.check_bad((0,), (0,), (False,))
        self.check_bad((0, 1), (0,), (True,))
        self.check_bad((0, 1), (0, 0), (1, False))
        self.check_bad((0, 1), (0, 0), (True, 0))

    def test_lists(self):
        for (one, other), joins in joined_rows(4).items():
            for targets in joins:
                self.check_bad(one, other, list(targets))

    def test_other_values(self):
        for value in NOT_TUPLES + (nested_tuples(19), (), {"a": [0]}):
            self.check_bad((0, 1), (0, 0), value)
            self.check_bad((0,), (0,), value)

    def test_other_values_as_items(self):
        for item in NOT_INTEGERS + (10 ** 39, -10 ** 39, nested_tuples(18)):
            if item is not None:
                self.check_bad((0, 1), (0,), (item,))
                self.check_bad((0, 1), (0, 0), (1, item))
                self.check_bad((0, 1), (0, 0), (item, None))


class EachJoinTest(unittest.TestCase):

    def test_example(self):
        self.assertEqual(
            [count_joins((0, 1), (0, 0)), list(each_join((0,), (0, 0)))],
            [6, [(0, 0, 0), (0, 1, 0), (0, 1, 2)]])

    def test_all_small_pairs(self):
        # Guarantee (c): the shapes of two rows side by side are the joins, each once.
        for (one, other), joins in joined_rows(6).items():
            expected = sorted(joins.values())
            self.assertEqual(len(set(expected)), len(expected))
            self.assertEqual(list(each_join(one, other)), expected, (one, other))
            told = steady(self, count_joins, one, other)
            self.assertIs(type(told), int)
            self.assertEqual(told, len(expected))
            steady(self, lambda one, other: list(each_join(one, other)), one, other)

    def test_the_joins_are_tuples_of_integers(self):
        for shape in each_join((0, 1, 1), (0, 0, 1)):
            self.assertTrue(type(shape) is tuple and is_plain(shape))

    def test_twelve_places_together(self):
        rising, falling = (0,) + (1,) * 5, (0,) * 6
        for one, other, many in ((rising, falling, 924), (falling, rising, 2), (rising, rising, 7)):
            told = list(each_join(one, other))
            self.assertEqual(len(told), many)
            self.assertEqual(count_joins(one, other), many)
            self.assertEqual(told, sorted(set(told)))
            for shape in told:
                self.assertTrue(has_some_row(shape))
                self.assertEqual(shape[:6], one)
                # What leads before the other shape is a fall of it.
                behind = tuple(0 if distance > at else distance for at, distance in enumerate(shape[6:]))
                self.assertEqual(behind, other)

    def test_two_shapes_of_twelve_places(self):
        for one, other in itertools.product(LONG_ROWS, repeat=2):
            a, b = len(expected_rises(one)), len(expected_falls(other))
            told = count_joins(expected_shape(one), expected_shape(other))
            self.assertEqual(told, math.comb(a + b, b))
        self.assertEqual(count_joins((0,) + (1,) * 11, (0,) * 12), 2704156)
        self.assertEqual(count_joins((0,) * 12, (0,) + (1,) * 11), 2)

    def test_it_is_a_generator(self):
        self.assertTrue(inspect.isgenerator(each_join((0,), (0,))))

    def test_again_after_it_was_left_early(self):
        one, other = (0, 1, 1), (0, 0, 0)
        whole = list(each_join(one, other))
        self.assertEqual(len(whole), 20)
        for many in range(21):
            self.assertEqual(list(itertools.islice(each_join(one, other), many)), whole[:many])
            self.assertEqual(list(each_join(one, other)), whole)

    def test_two_at_the_same_time(self):
        one, other = (0, 1), (0, 0)
        pairs = list(zip(each_join(one, other), each_join(one, other)))
        self.assertEqual(pairs, [(shape, shape) for shape in each_join(one, other)])


class TargetsOfTest(unittest.TestCase):

    def check(self, row):
        shape = expected_shape(row)
        for many in range(1, len(row)):
            told = steady(self, targets_of, shape, many)
            self.assertTrue(type(told) is tuple and is_plain(told))
            self.assertEqual(told, expected_targets(row, many), (row, many))
            one, other = expected_shape(row[:many]), expected_shape(row[many:])
            self.assertEqual(join(one, other, told), shape)

    def test_example(self):
        self.assertEqual([targets_of((0, 1, 0), 1), targets_of((0, 0, 1, 2), 2)], [(0, None), (1, 1)])

    def test_there_and_back(self):
        for many in range(2, 7):
            rows = {expected_shape(row): row for row in itertools.permutations(range(many))}
            self.assertEqual(len(rows), len(all_shapes(many)))
            for row in rows.values():
                self.check(row)

    def test_back_and_there(self):
        for (one, other), joins in joined_rows(6).items():
            for targets in joins:
                self.assertEqual(targets_of(join(one, other, targets), len(one)), targets)

    def test_twelve_places(self):
        for row in LONG_ROWS:
            self.check(row)


if __name__ == "__main__":
    unittest.main()
