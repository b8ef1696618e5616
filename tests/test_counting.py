"""Tests of leastplaces.counting: points [3] and [8], and guarantee (d) of [2]."""

import inspect
import itertools
import math
import unittest

from leastplaces.counting import count_shapes, each_shape, shape_at, shape_index
from leastplaces.errors import NoIndex, NotShape
from samples import (
    NOT_INTEGERS, NOT_TUPLES, all_shapes, answer_of, changes, expected_shape, has_some_row, is_plain,
    nested_tuples)

MANY_60 = math.comb(120, 60) // 61
MANY_59 = math.comb(118, 59) // 60
LAST_60 = tuple(range(60))
FIRST_60 = (0,) * 60

# Shapes of 60 places of several forms.
SHAPES_60 = (FIRST_60, LAST_60, (0,) + (1,) * 59, expected_shape((0, 1) * 30)) + tuple(
    expected_shape([(place * place * by + place) % entries for place in range(60)])
    for by in (1, 3, 7) for entries in (2, 3, 7, 61))

INDEXES_60 = (
    0, 1, 2, 100, 10 ** 6, 10 ** 20, MANY_59 - 1, MANY_59, MANY_59 + 1, MANY_60 // 3,
    MANY_60 // 2, MANY_60 - 2, MANY_60 - 1)


class CountShapesTest(unittest.TestCase):

    def test_example(self):
        self.assertEqual(
            [count_shapes(1), count_shapes(3), count_shapes(4), count_shapes(10)], [1, 5, 14, 16796])

    def test_all_shapes(self):
        for many in range(1, 8):
            self.assertEqual(count_shapes(many), len(all_shapes(many)))

    def test_all_numbers_of_places(self):
        for many in range(1, 61):
            told = count_shapes(many)
            self.assertIs(type(told), int)
            self.assertEqual(told, math.comb(2 * many, many) // (many + 1))
            self.assertEqual(count_shapes(many), told)

    def test_sixty_places(self):
        self.assertEqual(count_shapes(60), 1583850964596120042686772779038896)

    def test_without_listing_them(self):
        told = answer_of("from leastplaces.counting import count_shapes; print(count_shapes(60))")
        self.assertEqual(told, str(MANY_60))

    def test_somewhat_beyond_the_limits(self):
        self.assertEqual(count_shapes(61), math.comb(122, 61) // 62)
        for many in (0, -1, -2):
            self.assertEqual(count_shapes(many), 0)
            self.assertEqual(list(each_shape(many)), [])
            self.assertRaises(NoIndex, shape_at, many, 0)


class ShapeAtTest(unittest.TestCase):

    def check(self, many, index, shape):
        told = shape_at(many, index)
        self.assertIs(type(told), tuple)
        self.assertTrue(is_plain(told))
        self.assertEqual(told, shape)
        self.assertEqual(shape_at(many, index), told)
        found = shape_index(shape)
        self.assertIs(type(found), int)
        self.assertEqual(found, index)
        self.assertEqual(shape_index(shape), found)
        self.assertFalse(changes(shape_index, shape))

    def check_no_index(self, many, index):
        for _ in range(2):
            with self.assertRaises(NoIndex) as caught:
                shape_at(many, index)
            self.assertIs(caught.exception.value, index)
        self.assertFalse(changes(shape_at, many, index))

    def test_example(self):
        self.assertEqual(
            [shape_at(3, 0), shape_at(3, 3), shape_at(3, 4), shape_index((0, 1, 0))],
            [(0, 0, 0), (0, 1, 1), (0, 1, 2), 2])

    def test_all_small_shapes(self):
        for many in range(1, 8):
            for index, shape in enumerate(all_shapes(many)):
                self.check(many, index, shape)

    def test_twelve_places(self):
        for index in (0, 1, 58785, 58786, 100000, 208010, 208011):
            self.check(12, index, shape_at(12, index))
            self.assertTrue(has_some_row(shape_at(12, index)))
        self.check(12, 208011, tuple(range(12)))
        self.check_no_index(12, 208012)

    def test_first_and_last_of_sixty_places(self):
        self.check(60, 0, FIRST_60)
        self.check(60, MANY_60 - 1, LAST_60)
        self.check(60, 1, (0,) * 59 + (1,))
        # In the last shape all but the first place lead to the first one, so the last
        # place could lead to that one, to the one before it, or nowhere.
        self.check(60, MANY_60 - 2, tuple(range(59)) + (1,))
        self.check(60, MANY_60 - 3, tuple(range(59)) + (0,))

    def test_shapes_of_sixty_places_by_their_beginning(self):
        # As many shapes as there are with 59 places begin with two falls.
        self.check(60, MANY_59, (0, 1) + (0,) * 58)
        self.check(60, MANY_59 - 1, (0,) + tuple(range(59)))
        # Those that begin with many falls come first, in the order of their ends.
        for index, shape in enumerate(all_shapes(6)):
            self.check(60, index, (0,) * 54 + shape)

    def test_some_other_indexes_of_sixty_places(self):
        for index in INDEXES_60:
            shape = shape_at(60, index)
            self.assertEqual(len(shape), 60)
            self.assertTrue(has_some_row(shape))
            self.check(60, index, shape)
        shapes = [shape_at(60, index) for index in INDEXES_60]
        self.assertEqual(shapes, sorted(shapes))

    def test_some_other_shapes_of_sixty_places(self):
        for shape in SHAPES_60:
            self.check(60, shape_index(shape), shape)
        ordered = sorted(SHAPES_60)
        indexes = [shape_index(shape) for shape in ordered]
        self.assertEqual(indexes, sorted(indexes))

    def test_all_numbers_of_places(self):
        for many in range(1, 61):
            last = math.comb(2 * many, many) // (many + 1) - 1
            self.check(many, 0, (0,) * many)
            self.check(many, last, tuple(range(many)))
            self.check_no_index(many, last + 1)
            self.check_no_index(many, -1)

    def test_no_index(self):
        for many in (1, 2, 3, 7, 60):
            number = math.comb(2 * many, many) // (many + 1)
            for index in (-1, -2, -number, number, number + 1, 10 ** 39, -10 ** 39):
                self.check_no_index(many, index)
            for index in NOT_INTEGERS + (nested_tuples(19), [number], str(number)):
                self.check_no_index(many, index)

    def test_without_listing_them(self):
        told = answer_of(
            "from leastplaces.counting import shape_at, shape_index\n"
            f"print(shape_at(60, {MANY_60 - 1}) == tuple(range(60)), shape_index(tuple(range(60))))")
        self.assertEqual(told, f"True {MANY_60 - 1}")


class NotShapeTest(unittest.TestCase):

    def check(self, value):
        for _ in range(2):
            with self.assertRaises(NotShape):
                shape_index(value)
        self.assertFalse(changes(shape_index, value))

    def test_numbers_of_places(self):
        self.check(())
        self.assertEqual(shape_index((0,)), 0)
        self.assertEqual(shape_index((0,) * 60), 0)
        for many in (61, 62, 1000):
            self.check((0,) * many)
            self.check((0,) + (1,) * (many - 1))
            self.check(tuple(range(many)))

    def test_lists(self):
        self.check([])
        for many in range(1, 5):
            for shape in all_shapes(many):
                self.check(list(shape))
        self.check(list(LAST_60))

    def test_all_tuples_of_up_to_four_numbers(self):
        for many in range(1, 5):
            for value in itertools.product(range(-1, 5), repeat=many):
                if value in all_shapes(many):
                    self.assertEqual(shape_index(value), all_shapes(many).index(value))
                else:
                    self.check(value)

    def test_one_item_replaced(self):
        for shape in all_shapes(5) + SHAPES_60[:6]:
            for place in range(len(shape)):
                for item in (-1, 0, 1, 2, 3, place - 1, place, place + 1, 60, 10 ** 39):
                    value = shape[:place] + (item,) + shape[place + 1:]
                    if has_some_row(value):
                        self.assertEqual(shape_at(len(value), shape_index(value)), value)
                    else:
                        self.check(value)

    def test_other_values_as_items(self):
        for item in NOT_INTEGERS + (nested_tuples(18),):
            self.check((item,))
            self.check((0, item))
            self.check((item, 0))
            self.check((0, 1, item, 1))
            self.check((0,) * 59 + (item,))

    def test_other_values(self):
        for value in NOT_TUPLES + (nested_tuples(19), "0" * 60, {"0": 0, "1": 1}):
            self.check(value)


class EachShapeTest(unittest.TestCase):

    def test_example(self):
        self.assertEqual(
            list(each_shape(3)), [(0, 0, 0), (0, 0, 1), (0, 1, 0), (0, 1, 1), (0, 1, 2)])

    def test_all_small_shapes(self):
        for many in range(1, 8):
            told = list(each_shape(many))
            self.assertEqual(told, list(all_shapes(many)))
            self.assertTrue(all(type(shape) is tuple and is_plain(shape) for shape in told))

    def test_it_is_a_generator(self):
        self.assertTrue(inspect.isgenerator(each_shape(3)))

    def test_the_first_ones_of_sixty_places(self):
        told = list(itertools.islice(each_shape(60), 500))
        self.assertEqual(told, [shape_at(60, index) for index in range(500)])
        self.assertEqual(told[:429], [(0,) * 53 + shape for shape in all_shapes(7)])

    def test_without_computing_all_others(self):
        told = answer_of(
            "from itertools import islice\n"
            "from leastplaces.counting import each_shape\n"
            "print([sum(shape) for shape in islice(each_shape(60), 6)])")
        self.assertEqual(told, "[0, 1, 1, 2, 3, 1]")

    def test_again_after_it_was_left_early(self):
        for many in range(6):
            self.assertEqual(
                tuple(itertools.islice(each_shape(4), many)), all_shapes(4)[:many])
            self.assertEqual(tuple(each_shape(4)), all_shapes(4))

    def test_two_at_the_same_time(self):
        pairs = list(zip(each_shape(5), each_shape(5)))
        self.assertEqual(pairs, [(shape, shape) for shape in all_shapes(5)])


if __name__ == "__main__":
    unittest.main()
