"""Tests of leastplaces.answers: points [3], [4] and [11], and guarantees (b) and (f) of [2]."""

import functools
import inspect
import itertools
import unittest

from leastplaces.answers import (
    count_fulfilling, each_fulfilling, follows, needless, possible_places, reduced, select)
from leastplaces.errors import BadWish, NoProperty, NoWindow
from leastplaces.trees import basis
from samples import (
    LONG_ROWS, NOT_INTEGERS, TOP, all_claims, all_shapes, claims_about, expected_place,
    expected_shape, fulfils, holds_for, is_plain, mixed_claims, nested_tuples, refused, small_rows,
    steady, windows)

# For 3 places, no row fulfils them.
CLASH = ((0, 2, 1), (0, 1, 0))


@functools.lru_cache(maxsize=None)
def shape_rows(many):
    """For each shape with so many places a row that has it."""
    return {expected_shape(row): row for row in itertools.permutations(range(many))}


def sets_of_claims(n):
    """Some hundred sets of claims for n places, also empty ones and contradictory ones."""
    claims = all_claims(n)
    found = [()] + [(claim,) for claim in claims]
    found += list(itertools.combinations(claims, 2))[::max(1, n - 2)]
    found += list(itertools.combinations(claims, 3))[::11 if n < 5 else 97]
    found += [mixed_claims(many, n, by) for many in (3, 4, 5, 8) for by in range(1, 20)]
    found += [claims_about(row, many) for row in list(shape_rows(n).values())[:25] for many in (4, 9)]
    return found


def rows_left(n, claims):
    """Of each shape with n places a row, if it fulfils the claims."""
    return [row for row in shape_rows(n).values() if fulfils(row, claims)]


def expected_possible(rows, first, last):
    return tuple(sorted({expected_place(row, first, last) for row in rows}))


class PossiblePlacesTest(unittest.TestCase):

    def test_example(self):
        self.assertEqual(
            [possible_places(4, ((0, 2, 1),), 0, 3), possible_places(4, ((0, 2, 1),), 1, 2)],
            [(1, 3), (1,)])

    def test_against_all_shapes(self):
        # Guarantee (f).
        for n in range(1, 6):
            for claims in sets_of_claims(n):
                rows = rows_left(n, claims)
                for first, last in windows(n):
                    told = possible_places(n, claims, first, last)
                    self.assertTrue(type(told) is tuple and is_plain(told))
                    self.assertEqual(told, expected_possible(rows, first, last), (n, claims))

    def test_against_all_rows(self):
        for n in range(1, 5):
            for claims in sets_of_claims(n):
                rows = [row for row in small_rows(n, n) if fulfils(row, claims)]
                for first, last in windows(n):
                    told = steady(self, possible_places, n, claims, first, last)
                    self.assertEqual(told, expected_possible(rows, first, last))

    def test_claims_that_no_row_fulfils(self):
        for first, last in windows(3):
            self.assertEqual(possible_places(3, CLASH, first, last), ())

    def test_no_claims(self):
        for n in (1, 2, 7, 12):
            for first, last in windows(n):
                self.assertEqual(possible_places(n, (), first, last), tuple(range(first, last + 1)))

    def test_twelve_places(self):
        for row in LONG_ROWS:
            for first, last in windows(12):
                self.assertEqual(
                    possible_places(12, basis(expected_shape(row)), first, last),
                    (expected_place(row, first, last),))
                told = steady(self, possible_places, 12, claims_about(row, 12), first, last)
                self.assertIn(expected_place(row, first, last), told)
                for place in range(first, last + 1):
                    with_place = claims_about(row, 12) + ((first, last, place),)
                    self.assertEqual(place in told, count_fulfilling(12, with_place) > 0)

    def check_no_window(self, n, claims, first, last):
        error = refused(self, NoWindow, possible_places, n, claims, first, last)
        self.assertIs(type(error.value), tuple)
        self.assertEqual(len(error.value), 2)
        self.assertIs(error.value[0], first)
        self.assertIs(error.value[1], last)

    def test_no_window(self):
        for claims in ((), ((0, 2, 1),), CLASH):
            for first, last in ((1, 0), (2, 1), (2, 0), (0, 3), (-1, 0), (3, 3), (-1, -1), (0, 10 ** 39)):
                self.check_no_window(3, claims, first, last)
            for value in NOT_INTEGERS + (nested_tuples(19), [1, {"a": []}]):
                self.check_no_window(3, claims, value, 2)
                self.check_no_window(3, claims, 0, value)
                self.check_no_window(3, claims, value, value)

    def test_bools_are_no_places(self):
        for first, last in ((False, 1), (0, True), (False, True), (True, True), (False, 0)):
            self.check_no_window(2, (), first, last)


class FollowsTest(unittest.TestCase):

    def test_example(self):
        self.assertEqual(
            [follows(4, ((0, 2, 1),), (1, 2, 1)), follows(4, ((0, 2, 1),), (0, 3, 1))], [True, False])

    def test_against_all_shapes(self):
        for n in range(1, 6):
            for claims in sets_of_claims(n):
                rows = rows_left(n, claims)
                for claim in all_claims(n):
                    told = follows(n, claims, claim)
                    self.assertIs(type(told), bool)
                    self.assertEqual(told, all(holds_for(row, claim) for row in rows))

    def test_the_only_possible_place(self):
        # Guarantee (f).
        for n in range(1, 5):
            for claims in sets_of_claims(n):
                for claim in all_claims(n):
                    first, last, place = claim
                    possible = possible_places(n, claims, first, last)
                    self.assertEqual(steady(self, follows, n, claims, claim), possible in ((), (place,)))

    def test_every_claim_follows_if_no_row_fulfils_them(self):
        for claim in all_claims(3):
            self.assertIs(follows(3, CLASH, claim), True)

    def test_claims_of_one_place_follow(self):
        for n in range(1, 13):
            for place in range(n):
                self.assertIs(follows(n, (), (place, place, place)), True)

    def test_twelve_places(self):
        for row in LONG_ROWS:
            claims = basis(expected_shape(row))
            for claim in all_claims(12):
                self.assertEqual(follows(12, claims, claim), holds_for(row, claim))


class NeedlessTest(unittest.TestCase):

    def check(self, n, claims):
        told = steady(self, needless, n, claims)
        self.assertTrue(type(told) is tuple and is_plain(told))
        self.assertEqual(told, tuple(
            index for index, claim in enumerate(claims)
            if follows(n, claims[:index] + claims[index + 1:], claim)))
        left = list(claims)
        for index in reversed(range(len(claims))):
            claim = left.pop(index)
            if not follows(n, tuple(left), claim):
                left.insert(index, claim)
        found = steady(self, reduced, n, claims)
        self.assertTrue(type(found) is tuple and is_plain(found))
        self.assertEqual(found, tuple(left))
        return told, found

    def test_example(self):
        claims = ((0, 2, 1), (1, 2, 1), (1, 2, 1))
        self.assertEqual([needless(3, claims), reduced(3, claims)], [(1, 2), ((0, 2, 1),)])

    def test_many_sets(self):
        for n in range(1, 6):
            for claims in sets_of_claims(n):
                told, left = self.check(n, claims)
                self.assertEqual(needless(n, left), ())
                rows = small_rows(n, n) if n < 5 else shape_rows(n).values()
                self.assertEqual(
                    [fulfils(row, claims) for row in rows], [fulfils(row, left) for row in rows])

    def test_against_all_rows(self):
        # Not by follows, but by all rows.
        rows = small_rows(3, 3)
        for claims in sets_of_claims(3):
            expected = []
            for index, claim in enumerate(claims):
                others = claims[:index] + claims[index + 1:]
                if all(holds_for(row, claim) for row in rows if fulfils(row, others)):
                    expected.append(index)
            self.assertEqual(needless(3, claims), tuple(expected))

    def test_no_claims(self):
        self.assertEqual(self.check(3, ()), ((), ()))

    def test_equal_claims(self):
        claim = (0, 2, 1)
        self.assertEqual(self.check(3, (claim,)), ((), (claim,)))
        self.assertEqual(self.check(3, (claim,) * 2), ((0, 1), (claim,)))
        self.assertEqual(self.check(3, (claim,) * 30), (tuple(range(30)), (claim,)))

    def test_the_first_of_two_ways_is_kept(self):
        # The last claims are tried first, so the first ones stay.
        self.assertEqual(
            self.check(3, ((0, 1, 1), (1, 2, 1), (0, 2, 1))), ((0, 1, 2), ((0, 1, 1), (1, 2, 1))))
        self.assertEqual(
            self.check(3, ((0, 2, 1), (0, 1, 1), (1, 2, 1))), ((0, 1, 2), ((0, 2, 1),)))

    def test_claims_that_contradict_one_another(self):
        # Without one of the two the other does not tell what it claims.
        self.assertEqual(self.check(3, CLASH), ((), CLASH))
        told, left = self.check(3, CLASH + ((0, 2, 0), (1, 2, 2)))
        self.assertIn(3, told)
        self.assertEqual(left, CLASH)
        self.assertEqual(self.check(3, CLASH + CLASH), ((0, 1, 2, 3), CLASH))

    def test_claims_of_a_single_place(self):
        claims = tuple((place, place, place) for place in range(12))
        self.assertEqual(self.check(12, claims), (tuple(range(12)), ()))
        self.assertEqual(self.check(3, ((1, 1, 1), (0, 2, 1))), ((0,), ((0, 2, 1),)))

    def test_thirty_claims(self):
        for row in LONG_ROWS:
            told, left = self.check(12, claims_about(row, 30))
            self.assertLessEqual(len(left), 11)
        for by in range(1, 6):
            self.check(12, mixed_claims(30, 12, by))


class FulfillingTest(unittest.TestCase):

    def check(self, n, claims, expected):
        """expected: the shapes that fulfil the claims, ascending."""
        told = steady(self, count_fulfilling, n, claims)
        self.assertIs(type(told), int)
        self.assertEqual(told, len(expected), (n, claims))
        found = steady(self, lambda n, claims: list(each_fulfilling(n, claims)), n, claims)
        self.assertEqual(found, expected, (n, claims))
        self.assertTrue(all(type(shape) is tuple and is_plain(shape) for shape in found))

    def test_examples(self):
        self.assertEqual(
            [count_fulfilling(3, ((0, 2, 1),)), count_fulfilling(3, ()),
             count_fulfilling(3, ((0, 2, 1), (0, 1, 0)))],
            [1, 5, 0])
        self.assertEqual(list(each_fulfilling(3, ((0, 1, 0),))), [(0, 1, 0), (0, 1, 1), (0, 1, 2)])

    def test_against_all_shapes(self):
        for n in range(1, 7):
            for claims in sets_of_claims(n):
                rows = shape_rows(n)
                self.check(n, claims, [shape for shape in sorted(rows) if fulfils(rows[shape], claims)])

    def test_no_claims(self):
        for n in range(1, 8):
            self.check(n, (), list(all_shapes(n)))

    def test_twelve_places_without_claims(self):
        self.assertEqual(count_fulfilling(12, ()), 208012)
        found = list(each_fulfilling(12, ()))
        self.assertEqual(len(set(found)), 208012)
        self.assertEqual(found, sorted(found))
        self.assertEqual((found[0], found[-1]), ((0,) * 12, tuple(range(12))))

    def test_twelve_places_with_the_basis_of_a_row(self):
        for row in LONG_ROWS:
            shape = expected_shape(row)
            self.check(12, basis(shape), [shape])

    def test_the_basis_determines_the_shape(self):
        # Guarantee (b).
        for n in range(1, 7):
            for shape in all_shapes(n):
                self.check(n, basis(shape), [shape])

    def test_twelve_places_with_few_claims(self):
        # All places before and behind the least one are free: Catalan numbers.
        catalan = [len(all_shapes(many)) if many else 1 for many in range(8)]
        for place, many in ((0, 58786), (4, catalan[4] * catalan[7]), (11, 58786)):
            self.assertEqual(count_fulfilling(12, ((0, 11, place),)), many)
            self.assertEqual(len(list(each_fulfilling(12, ((0, 11, place),)))), many)
        for claims in (((0, 11, 5), (6, 11, 9)), ((2, 9, 4), (0, 3, 1), (5, 11, 10)), ((3, 8, 3),)):
            found = list(each_fulfilling(12, claims))
            self.assertEqual(len(found), count_fulfilling(12, claims))
            self.assertEqual(found, sorted(set(found)))
        self.assertEqual(
            count_fulfilling(12, ((0, 11, 5), (6, 11, 9))), catalan[5] * catalan[3] * catalan[2])

    def test_half_of_the_shapes(self):
        # A claim and what remains of all shapes, for all places of its window.
        for first, last in ((0, 1), (3, 7), (0, 11), (10, 11)):
            counts = [count_fulfilling(12, ((first, last, place),)) for place in range(first, last + 1)]
            self.assertEqual(sum(counts), 208012)

    def test_claims_that_no_row_fulfils(self):
        self.check(3, CLASH, [])
        for by in range(1, 6):
            self.check(12, mixed_claims(30, 12, by), [])

    def test_it_is_a_generator(self):
        self.assertTrue(inspect.isgenerator(each_fulfilling(3, ())))

    def test_again_after_it_was_left_early(self):
        claims = ((0, 1, 0),)
        whole = list(each_fulfilling(5, claims))
        self.assertEqual(len(whole), 28)
        for many in range(29):
            self.assertEqual(list(itertools.islice(each_fulfilling(5, claims), many)), whole[:many])
            self.assertEqual(list(each_fulfilling(5, claims)), whole)

    def test_two_at_the_same_time(self):
        pairs = list(zip(each_fulfilling(4, ()), each_fulfilling(4, ())))
        self.assertEqual(pairs, [(shape, shape) for shape in all_shapes(4)])


class SelectTest(unittest.TestCase):

    def expected(self, row, wanted):
        shape = expected_shape(row)
        found = []
        for place in range(len(row)):
            told = {
                "distance": shape[place],
                "fall": all(entry > row[place] for entry in row[:place]),
                "rise": all(entry >= row[place] for entry in row[place:]),
                "root": place == row.index(min(row)),
            }
            if all(told[name] == value for name, value in wanted.items()):
                found.append(place)
        return tuple(found)

    def check(self, row, wanted):
        before = repr((row, wanted))
        told = select(row, **wanted)
        self.assertTrue(type(told) is tuple and is_plain(told))
        self.assertEqual(told, self.expected(row, wanted), (row, wanted))
        self.assertEqual(select(row, **wanted), told)
        self.assertEqual(repr((row, wanted)), before)

    def check_error(self, kind, field, expected, row, wanted):
        before = repr((row, wanted))
        for _ in range(2):
            with self.assertRaises(kind) as caught:
                select(row, **wanted)
            self.assertIs(getattr(caught.exception, field), expected)
        self.assertEqual(repr((row, wanted)), before)

    def test_example(self):
        row = (3, 1, 2, 1)
        self.assertEqual(
            [select(row, fall=True), select(row, rise=True, root=False),
             select(row, distance=0, rise=False), select((3, 1))],
            [(0, 1), (3,), (0,), (0, 1)])

    def test_all_wishes_in_all_orders(self):
        values = {"distance": (0, 1, 2), "fall": (True, False), "rise": (True, False), "root": (True, False)}
        rows = small_rows(3) + [(3, 1, 2, 1), (5, 6, 4, 6, 4), (0,), (TOP, -TOP)]
        for many in range(5):
            for names in itertools.permutations(values, many):
                for wishes in itertools.product(*[values[name] for name in names]):
                    for row in rows:
                        self.check(row, dict(zip(names, wishes)))

    def test_twelve_places(self):
        for row in LONG_ROWS:
            self.check(row, {})
            for wanted in ({"fall": True}, {"rise": True}, {"root": True}, {"root": False, "rise": True},
                           {"rise": False, "distance": 1}, {"distance": 2, "fall": False}):
                self.check(row, wanted)
            for distance in range(-1, 13):
                self.check(row, {"distance": distance})

    def test_distances_that_do_not_occur(self):
        for distance in (-1, -2, 3, 4, 12, 10 ** 39, -10 ** 39):
            self.assertEqual(select((3, 1, 2, 1), distance=distance), ())
            self.assertEqual(select((3, 1, 2, 1), distance=distance, fall=True), ())

    def test_no_wish(self):
        for row in LONG_ROWS:
            self.assertEqual(select(row), tuple(range(12)))

    def test_no_property(self):
        names = ["", "falls", "Fall", "place", "rows", "DISTANCE", "fall ", "self", "wanted", "name"]
        for name in names:
            self.check_error(NoProperty, "name", name, (3, 1, 2), {name: True})
            self.check_error(NoProperty, "name", name, (3, 1, 2), {"fall": True, name: None})

    def test_the_first_wrong_name(self):
        self.check_error(NoProperty, "name", "b", (3, 1), {"fall": True, "b": 0, "a": 0})
        self.check_error(NoProperty, "name", "a", (3, 1), {"a": 0, "b": 0, "fall": True})
        # Also if a value before it is wrong.
        self.check_error(NoProperty, "name", "b", (3, 1), {"fall": 1, "b": True})
        self.check_error(NoProperty, "name", "b", (3, 1), {"distance": True, "rise": None, "b": 0, "a": 1})

    def test_bad_wish(self):
        for name in ("fall", "rise", "root"):
            for value in NOT_INTEGERS + (0, 1, -1, 10 ** 39, nested_tuples(19)):
                if not isinstance(value, bool):
                    self.check_error(BadWish, "value", value, (3, 1, 2), {name: value})
        for value in NOT_INTEGERS + (nested_tuples(19),):
            self.check_error(BadWish, "value", value, (3, 1, 2), {"distance": value})

    def test_the_first_wrong_value(self):
        one, other = ["one"], ["other"]
        self.check_error(BadWish, "value", one, (3, 1), {"fall": one, "rise": other})
        self.check_error(BadWish, "value", other, (3, 1), {"rise": other, "fall": one})
        self.check_error(BadWish, "value", one, (3, 1), {"distance": 0, "root": True, "fall": one})
        self.check_error(BadWish, "value", True, (3, 1), {"rise": False, "distance": True, "fall": 0})


if __name__ == "__main__":
    unittest.main()
