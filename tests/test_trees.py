"""Tests of leastplaces.trees: points [3] and [6], and guarantee (b) of [2]."""

import inspect
import itertools
import unittest

from leastplaces.shapes import least_row
from leastplaces.trees import basis, each_place, is_tree, parents, spans, tree_of, tree_shape
from samples import (
    LONG_ROWS, NOT_INTEGERS, NOT_TUPLES, all_shapes, changes, expected_place, expected_shape,
    is_plain, nested_tuples, small_rows, windows)

LEAF = ((), ())
LONG_SHAPES = tuple(expected_shape(row) for row in LONG_ROWS)
SHAPES = tuple(shape for many in range(1, 7) for shape in all_shapes(many)) + LONG_SHAPES


def left_chain(size):
    tree = ()
    for _ in range(size):
        tree = (tree, ())
    return tree


def right_chain(size):
    tree = ()
    for _ in range(size):
        tree = ((), tree)
    return tree


def zigzag(size):
    tree = ()
    for step in range(size):
        tree = (tree, ()) if step % 2 else ((), tree)
    return tree


def trees_of_size(size):
    """All trees of a size."""
    if size == 0:
        return [()]
    return [
        (left, right) for before in range(size)
        for left in trees_of_size(before) for right in trees_of_size(size - 1 - before)]


def with_one_part_replaced(tree, part):
    """All values that a tree becomes if one tree in it is replaced."""
    yield part
    if tree:
        left, right = tree
        for other in with_one_part_replaced(left, part):
            yield (other, right)
        for other in with_one_part_replaced(right, part):
            yield (left, other)


def expected_tree(row):
    if not row:
        return ()
    root = row.index(min(row))
    return (expected_tree(row[:root]), expected_tree(row[root + 1:]))


def expected_roots(row, first, last, parent=None, depth=0):
    """(place, parent, depth) of the places of a window, in the order of each_place."""
    if first > last:
        return []
    root = expected_place(row, first, last)
    return (
        [(root, parent, depth)] + expected_roots(row, first, root - 1, root, depth + 1)
        + expected_roots(row, root + 1, last, root, depth + 1))


def expected_span(row, place):
    """The greatest window with this least place, of all windows."""
    found = [
        (first, last) for first, last in windows(len(row))
        if first <= place <= last and expected_place(row, first, last) == place]
    greatest = max(last - first for first, last in found)
    (span,) = [window for window in found if window[1] - window[0] == greatest]
    return span


class IsTreeTest(unittest.TestCase):

    def check(self, value, expected):
        self.assertIs(is_tree(value), expected, value)
        self.assertIs(is_tree(value), expected, value)
        self.assertFalse(changes(is_tree, value))

    def test_example(self):
        self.assertEqual(
            [is_tree(((), ())), is_tree(()), is_tree(((), ((), ()))), is_tree(((), None))],
            [True, False, True, False])

    def test_all_small_trees(self):
        self.check((), False)
        for size in range(1, 7):
            for tree in trees_of_size(size):
                self.check(tree, True)

    def test_sizes(self):
        for make in (left_chain, right_chain, zigzag):
            self.check(make(1), True)
            self.check(make(12), True)
            self.check(make(13), False)
            self.check(make(14), False)
        self.check((left_chain(5), right_chain(6)), True)
        self.check((left_chain(6), right_chain(6)), False)
        self.check((right_chain(11), ()), True)
        self.check((right_chain(12), ()), False)
        self.check(((), left_chain(12)), False)
        self.check(((LEAF, LEAF), ((LEAF, LEAF), (LEAF, LEAF))), True)
        self.check((((LEAF, LEAF), (LEAF, LEAF)), ((LEAF, LEAF), (LEAF, LEAF))), False)

    def test_other_numbers_of_trees(self):
        for part in ((), LEAF, (LEAF, ())):
            for value in ((part,), (part, part, part), (part,) * 4, (part,) * 12):
                self.check(value, False)
                for other in with_one_part_replaced((LEAF, ((), LEAF)), value):
                    self.check(other, False)

    def test_lists_in_the_place_of_tuples(self):
        for value in ([], [[], []], [(), ()], [LEAF, ()]):
            self.check(value, False)
            for tree in ((), LEAF, (LEAF, LEAF), left_chain(4)):
                for other in with_one_part_replaced(tree, value):
                    self.check(other, False)

    def test_other_values(self):
        others = NOT_TUPLES + ("ab", b"", {"a": (), "b": LEAF}, nested_tuples(1), (0, 0), (True, False))
        for value in others:
            self.check(value, False)
            for tree in (LEAF, (LEAF, LEAF), right_chain(11), left_chain(11)):
                for other in with_one_part_replaced(tree, value):
                    self.check(other, False)

    def test_items_that_are_no_trees(self):
        for item in NOT_INTEGERS:
            if item != ():
                self.check((item, ()), False)
                self.check(((), item), False)
                self.check((LEAF, (item, LEAF)), False)
                self.check((item, item), False)

    def test_a_wrong_part_beside_a_great_one(self):
        self.check((None, left_chain(12)), False)
        self.check((right_chain(13), None), False)
        self.check(([], right_chain(11)), False)
        self.check((left_chain(11), [()]), False)

    def test_deep_values(self):
        for depth in (19, 20):
            self.check(nested_tuples(depth), False)
            self.check((nested_tuples(depth - 1), ()), False)
            self.check(((), nested_tuples(depth - 1)), False)
            self.check(left_chain(depth), False)
            self.check(right_chain(depth), False)
            self.check(zigzag(depth), False)
        deep = []
        for _ in range(18):
            deep = [deep]
        self.check((deep, ()), False)
        self.check(({"a": deep}, ()), False)

    def test_wide_values(self):
        self.check(((),) * 1000, False)
        self.check((((),) * 900, ()), False)
        self.check([()] * 1000, False)

    def test_one_tree_at_many_places(self):
        tree = ()
        for _ in range(19):
            tree = (tree, tree)
        self.assertIs(is_tree(tree), False)


class TreeOfTest(unittest.TestCase):

    def check(self, shape):
        tree = tree_of(shape)
        self.assertEqual(tree, expected_tree(least_row(shape)))
        self.assertTrue(is_plain(tree))
        self.assertTrue(is_tree(tree))
        back = tree_shape(tree)
        self.assertEqual(back, shape)
        self.assertTrue(is_plain(back) and type(back) is tuple)
        self.assertEqual((tree_of(shape), tree_shape(tree)), (tree, back))
        self.assertFalse(changes(tree_of, shape))
        self.assertFalse(changes(tree_shape, tree))

    def test_example(self):
        self.assertEqual(
            [tree_of((0, 0, 1)), tree_shape((((), ()), ((), ())))],
            [(((), ()), ((), ())), (0, 0, 1)])

    def test_there_and_back(self):
        for many in range(1, 8):
            for shape in all_shapes(many):
                self.check(shape)
        for shape in LONG_SHAPES:
            self.check(shape)

    def test_each_tree_has_exactly_one_shape(self):
        for size in range(1, 8):
            trees = trees_of_size(size)
            self.assertEqual(sorted(map(tree_shape, trees)), list(all_shapes(size)))
            for tree in trees:
                self.assertEqual(tree_of(tree_shape(tree)), tree)

    def test_the_tree_of_a_row(self):
        for row in LONG_ROWS:
            self.assertEqual(tree_of(expected_shape(row)), expected_tree(row))
        for row in small_rows(5):
            self.assertEqual(tree_of(expected_shape(row)), expected_tree(row))

    def test_chains(self):
        for many in range(1, 13):
            self.assertEqual(tree_of((0,) * many), left_chain(many))
            self.assertEqual(tree_shape(left_chain(many)), (0,) * many)
            rising = (0,) + (1,) * (many - 1)
            self.assertEqual(tree_of(rising), right_chain(many))
            self.assertEqual(tree_shape(right_chain(many)), rising)
            self.assertEqual(tree_of(tree_shape(zigzag(many))), zigzag(many))

    def test_one_place(self):
        self.assertEqual(tree_of((0,)), LEAF)
        self.assertEqual(tree_shape(LEAF), (0,))


class PlacesTest(unittest.TestCase):

    def check_call(self, call, shape, expected):
        told = call(shape)
        self.assertIs(type(told), tuple)
        self.assertTrue(is_plain(told))
        self.assertEqual(told, expected, shape)
        self.assertEqual(call(shape), told)
        self.assertFalse(changes(call, shape))

    def test_examples(self):
        self.assertEqual(
            [parents((0, 0, 1, 2)), spans((0, 0, 1, 2))],
            [(1, None, 3, 1), ((0, 0), (0, 3), (2, 2), (2, 3))])
        self.assertEqual(list(each_place((0, 0, 1, 2))), [(1, 0), (0, 1), (3, 1), (2, 2)])
        self.assertEqual([basis((0, 0, 1, 2)), basis((0,))], [((0, 3, 1), (2, 3, 3)), ()])

    def test_parents(self):
        for shape in SHAPES:
            row = least_row(shape)
            roots = sorted(expected_roots(row, 0, len(row) - 1))
            self.check_call(parents, shape, tuple(parent for _, parent, _ in roots))
            self.assertEqual(parents(shape).count(None), 1)

    def test_spans(self):
        for shape in SHAPES:
            row = least_row(shape)
            self.check_call(spans, shape, tuple(expected_span(row, at) for at in range(len(row))))

    def test_each_place(self):
        for shape in SHAPES:
            row = least_row(shape)
            roots = expected_roots(row, 0, len(row) - 1)
            told = list(each_place(shape))
            self.assertEqual(told, [(place, depth) for place, _, depth in roots])
            for item in told:
                self.assertTrue(type(item) is tuple and is_plain(item))
            self.assertFalse(changes(lambda value: list(each_place(value)), shape))

    def test_basis(self):
        for shape in SHAPES:
            row = least_row(shape)
            claims = []
            for place in range(len(row)):
                first, last = expected_span(row, place)
                if last > first:
                    claims.append((first, last, place))
            self.check_call(basis, shape, tuple(sorted(claims)))

    def test_one_place(self):
        self.check_call(parents, (0,), (None,))
        self.check_call(spans, (0,), ((0, 0),))
        self.check_call(basis, (0,), ())
        self.assertEqual(list(each_place((0,))), [(0, 0)])

    def test_each_place_is_a_generator(self):
        self.assertTrue(inspect.isgenerator(each_place((0, 1))))

    def test_each_place_twice(self):
        shape = (0, 0, 1, 2)
        self.assertEqual(list(each_place(shape)), list(each_place(shape)))
        pairs = list(zip(each_place(shape), each_place(shape)))
        self.assertEqual(pairs, [(item, item) for item in each_place(shape)])

    def test_each_place_after_it_was_left_early(self):
        shape = LONG_SHAPES[3]
        whole = list(each_place(shape))
        for many in range(12):
            self.assertEqual(list(itertools.islice(each_place(shape), many)), whole[:many])
            self.assertEqual(list(each_place(shape)), whole)

    def test_the_basis_determines_the_shape(self):
        # Guarantee (b): a row has the shape if and only if all claims hold for it.
        for many in range(1, 6):
            for row in small_rows(many, min(many, 4)):
                for shape in all_shapes(many):
                    holds = all(
                        expected_place(row, first, last) == place
                        for first, last, place in basis(shape))
                    self.assertEqual(holds, expected_shape(row) == shape, (row, shape))

    def test_different_shapes_have_different_bases(self):
        for many in range(1, 8):
            found = {basis(shape) for shape in all_shapes(many)}
            self.assertEqual(len(found), len(all_shapes(many)))


if __name__ == "__main__":
    unittest.main()
