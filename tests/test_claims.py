"""Tests of leastplaces.claims: points [3], [9] and [10], and guarantees (b), (e) and (g) of [2]."""

import itertools
import unittest

from leastplaces.claims import (
    broken_claims, claims_error, find_ring, fulfil, is_claim, ring_holds, verdict, verdict_holds)
from leastplaces.trees import basis
from samples import (
    LONG_ROWS, NOT_CLAIMS, NOT_INTEGERS, NOT_TUPLES, TOP, all_claims, all_shapes, claims_about,
    expected_shape, fulfils, holds_for, is_plain, mixed_claims, nested_tuples, small_rows, steady)

# Two claims that contradict one another, and their ring.
CLASH = ((0, 2, 1), (0, 1, 0))
CLASH_RING = ((0, 0), (1, 1))

# Claims with rings over two and over three places, and one that leads nowhere.
CIRCLE = ((1, 2, 1), (0, 2, 1), (0, 1, 0), (0, 2, 2), (2, 2, 2))


def sets_of_claims(many, most):
    """All sets of at most so many claims for rows with so many places."""
    claims = all_claims(many)
    for size in range(most + 1):
        yield from itertools.combinations(claims, size)


def fulfilling_rows(claims, rows):
    return [row for row in rows if fulfils(row, claims)]


def expected_ring(claims, value):
    """Whether a tuple of pairs of integers is a ring, by the definition."""
    strict = 0
    for at, (index, other) in enumerate(value):
        if not 0 <= index < len(claims):
            return False
        first, last, place = claims[index]
        if other == place or not first <= other <= last:
            return False
        if value[at - 1][1] != place:
            return False
        strict += other < place
    return strict > 0


def long_claims():
    """Sets of 30 claims for 12 places: some that a row fulfils, and some others."""
    found = [claims_about(row, 30) for row in LONG_ROWS]
    found += [claims_about(row, 29) + ((0, 11, place),) for row in LONG_ROWS for place in (0, 5, 11)]
    found += [mixed_claims(30, 12, by) for by in range(1, 12)]
    return found


class IsClaimTest(unittest.TestCase):

    def check(self, n, value, expected):
        self.assertIs(steady(self, is_claim, n, value), expected, (n, value))
        error = None if expected else (0, "claim")
        self.assertEqual(steady(self, claims_error, n, (value,)), error)

    def test_examples(self):
        self.assertEqual(
            [is_claim(3, (0, 2, 1)), is_claim(3, (0, 3, 1)), claims_error(3, ((0, 2, 1), (1, 0, 0)))],
            [True, False, (1, "claim")])

    def test_all_small_tuples(self):
        for n in range(1, 5):
            for value in itertools.product(range(-1, n + 2), repeat=3):
                first, last, place = value
                self.check(n, value, 0 <= first <= place <= last < n)

    def test_edges(self):
        for n in range(1, 13):
            for value in ((0, 0, 0), (0, n - 1, 0), (0, n - 1, n - 1), (n - 1, n - 1, n - 1)):
                self.check(n, value, True)
            for value in ((0, n, 0), (0, n, n), (n, n, n), (-1, 0, 0), (-1, -1, -1), (0, n - 1, n)):
                self.check(n, value, False)

    def test_values_that_are_no_claims(self):
        for value in NOT_CLAIMS + NOT_TUPLES + (nested_tuples(18), CLASH):
            self.check(3, value, False)

    def test_one_part_replaced(self):
        for part in NOT_INTEGERS + (-1, -2, 12, 13, 10 ** 39, -10 ** 39):
            for claim in ((0, 0, 0), (0, 11, 5), (11, 11, 11), (0, 1, 1)):
                for at in range(3):
                    self.check(12, claim[:at] + (part,) + claim[at + 1:], False)

    def test_bools_in_the_place_of_equal_integers(self):
        for claim in all_claims(2):
            for parts in itertools.product((False, True), repeat=3):
                value = tuple(bool(item) if part else item for item, part in zip(claim, parts))
                self.check(2, value, not any(parts))

    def test_other_numbers_of_parts(self):
        self.check(3, (0, 2), False)
        self.check(3, (0, 2, 1, 1), False)
        self.check(3, (0, 2, 1, None), False)
        self.check(3, (), False)


class ClaimsErrorTest(unittest.TestCase):

    def check(self, n, value, expected):
        error = steady(self, claims_error, n, value)
        self.assertEqual(error, expected, (n, value))
        if expected is not None:
            self.assertIs(type(error), tuple)
            self.assertIs(type(error[0]), type(expected[0]))

    def test_claims(self):
        self.check(3, (), None)
        self.check(3, CLASH, None)
        self.check(3, ((0, 2, 1),) * 5, None)
        self.check(1, ((0, 0, 0),) * 30, None)
        for claims in long_claims():
            self.check(12, claims, None)

    def test_numbers_of_claims(self):
        for many in range(31):
            self.check(3, ((0, 2, 1),) * many, None)
        for many in (31, 32, 60, 1000):
            self.check(3, ((0, 2, 1),) * many, (None, "claims"))

    def test_the_number_comes_before_the_items(self):
        self.check(3, (None,) * 31, (None, "claims"))
        self.check(3, ((0, 3, 1),) + ((0, 2, 1),) * 30, (None, "claims"))

    def test_the_first_item_that_is_no_claim(self):
        for index in range(30):
            for value in NOT_CLAIMS:
                items = ((0, 2, 1),) * index + (value,) + ((0, 2, 1),) * (29 - index)
                self.check(3, items, (index, "claim"))
            self.check(3, ((0, 1, 0),) * index + (None,) * (30 - index), (index, "claim"))

    def test_other_values(self):
        for value in NOT_TUPLES + ([(0, 2, 1)], [], "(0, 2, 1)"):
            self.check(3, value, (None, "claims"))
        self.check(3, (0, 2, 1), (0, "claim"))
        self.check(3, nested_tuples(20), (0, "claim"))


class BrokenClaimsTest(unittest.TestCase):

    def check(self, row, claims):
        told = steady(self, broken_claims, row, claims)
        expected = [index for index, claim in enumerate(claims) if not holds_for(row, claim)]
        self.assertEqual(told, tuple(expected), (row, claims))
        self.assertTrue(type(told) is tuple and is_plain(told))
        return told

    def test_example(self):
        self.assertEqual(broken_claims((3, 1, 2), ((0, 2, 1), (0, 1, 0), (2, 2, 2))), (1,))

    def test_all_claims_of_small_rows(self):
        for many in range(1, 5):
            for row in small_rows(many):
                self.check(row, tuple(all_claims(many)[:30]))
                self.check(row, tuple(reversed(all_claims(many)[-30:])))

    def test_all_some_and_none_hold(self):
        self.assertEqual(self.check((3, 1, 2), ()), ())
        self.assertEqual(self.check((3, 1, 2), ((0, 2, 1), (1, 2, 1), (0, 0, 0))), ())
        self.assertEqual(self.check((3, 1, 2), ((0, 1, 0), (1, 2, 2), (0, 1, 0))), (0, 1, 2))
        self.assertEqual(self.check((7, 7, 7), ((0, 2, 1), (0, 2, 0), (1, 2, 2))), (0, 2))
        self.assertEqual(self.check((TOP, -TOP), ((0, 1, 0), (0, 1, 1))), (0,))

    def test_thirty_claims(self):
        for row in LONG_ROWS:
            self.assertEqual(self.check(row, claims_about(row, 30)), ())
            for by in range(1, 6):
                self.check(row, mixed_claims(30, 12, by))


class FulfilTest(unittest.TestCase):

    def check_rows(self, n, claims, rows):
        """rows: all rows with entries below n that fulfil the claims."""
        row = steady(self, fulfil, n, claims)
        if not rows:
            self.assertIsNone(row, claims)
            return
        self.assertTrue(type(row) is tuple and is_plain(row))
        self.assertEqual(row, tuple(map(min, *rows, rows[0])), claims)
        self.assertIn(row, rows)

    def test_example(self):
        self.assertEqual(
            [fulfil(3, ((0, 2, 1),)), fulfil(3, ((0, 2, 1), (0, 1, 0))), fulfil(2, ())],
            [(1, 0, 0), None, (0, 0)])

    def test_all_sets_of_up_to_three_claims(self):
        for n in range(1, 5):
            rows = small_rows(n, n)
            for claims in sets_of_claims(n, 3):
                self.check_rows(n, claims, fulfilling_rows(claims, rows))

    def test_the_order_and_equal_claims_do_not_matter(self):
        for claims in sets_of_claims(3, 3):
            for other in itertools.permutations(claims):
                self.assertEqual(fulfil(3, other), fulfil(3, claims))
            self.assertEqual(fulfil(3, claims + claims), fulfil(3, claims))

    def test_claims_of_one_place(self):
        for n in range(1, 13):
            self.assertEqual(fulfil(n, ()), (0,) * n)
            self.assertEqual(fulfil(n, tuple((at, at, at) for at in range(n))), (0,) * n)

    def test_thirty_claims_for_twelve_places(self):
        kinds = set()
        for claims in long_claims():
            row = steady(self, fulfil, 12, claims)
            kinds.add(row is None)
            if row is None:
                self.assertTrue(expected_ring(claims, find_ring(12, claims)), claims)
                continue
            self.assertTrue(fulfils(row, claims))
            # Each entry is 0, or an entry that a claim demands below it forces it up.
            forced = [0] * 12
            for first, last, place in claims:
                for other in range(first, last + 1):
                    forced[other] = max(forced[other], row[place] + (other < place))
            self.assertEqual(list(row), forced)
            self.assertLessEqual(max(row), 11)
        self.assertEqual(kinds, {True, False})

    def test_great_entries(self):
        for n in range(1, 13):
            claims = tuple((at, at + 1, at + 1) for at in range(n - 1))
            self.assertEqual(fulfil(n, claims), tuple(range(n - 1, -1, -1)))
            claims = tuple((at, at + 1, at) for at in range(n - 1))
            self.assertEqual(fulfil(n, claims), (0,) * n)

    def test_least_rows_of_shapes(self):
        # Guarantee (b): each shape has a row with the least entries, and its basis tells it.
        for many in range(1, 6):
            least = {}
            for row in small_rows(many, many):
                shape = expected_shape(row)
                least[shape] = tuple(map(min, row, least.get(shape, row)))
            self.assertEqual(sorted(least), list(all_shapes(many)))
            for shape in least:
                self.assertEqual(fulfil(many, basis(shape)), least[shape])
        for row in LONG_ROWS:
            shape = expected_shape(row)
            self.assertEqual(expected_shape(fulfil(12, basis(shape))), shape)


class RingTest(unittest.TestCase):

    def check(self, n, claims, value, expected):
        self.assertIs(steady(self, ring_holds, n, claims, value), expected, (n, claims, value))
        self.assertIs(steady(self, verdict_holds, n, claims, ("ring", value)), expected)

    def check_found(self, n, claims, rows):
        ring = steady(self, find_ring, n, claims)
        if rows:
            self.assertIsNone(ring, claims)
            return
        self.assertTrue(type(ring) is tuple and is_plain(ring), claims)
        self.assertTrue(all(type(pair) is tuple and len(pair) == 2 for pair in ring))
        self.assertTrue(2 <= len(ring) <= n)
        self.assertTrue(expected_ring(claims, ring), (claims, ring))
        self.check(n, claims, ring, True)

    def test_examples(self):
        self.assertEqual([find_ring(3, ((0, 2, 1),)), len(find_ring(3, ((0, 2, 1), (0, 1, 0))))], [None, 2])
        self.assertEqual(
            [ring_holds(3, ((0, 2, 1), (0, 1, 0)), ((0, 0), (1, 1))),
             ring_holds(3, ((0, 2, 1), (0, 1, 0)), ((0, 2),))],
            [True, False])

    def test_a_ring_exactly_if_no_row_fulfils_the_claims(self):
        # Guarantee (e).
        for n in range(1, 5):
            rows = small_rows(n, n)
            for claims in sets_of_claims(n, 3):
                self.check_found(n, claims, fulfilling_rows(claims, rows))

    def test_thirty_claims_for_twelve_places(self):
        for claims in long_claims():
            row = fulfil(12, claims)
            self.check_found(12, claims, [] if row is None else [row])

    def test_all_small_values(self):
        for claims in (CLASH, CIRCLE, (), ((0, 2, 1),)):
            pairs = list(itertools.product(range(-1, len(claims) + 1), range(-1, 4)))
            for many in range(4 if len(pairs) < 25 else 3):
                for value in itertools.product(pairs, repeat=many):
                    self.check(3, claims, value, expected_ring(claims, value))

    def test_rings_of_three_pairs(self):
        ring = ((0, 2), (3, 0), (2, 1))
        self.check(3, CIRCLE, ring, True)
        self.check(3, CIRCLE, ((4, 2),) + ring, False)

    def test_turned_and_repeated(self):
        for claims, ring in ((CLASH, CLASH_RING), (CIRCLE, ((0, 2), (3, 0), (2, 1)))):
            for at in range(len(ring)):
                turned = ring[at:] + ring[:at]
                for times in (1, 2, 3, 50):
                    self.check(3, claims, turned * times, True)
                self.check(3, claims, turned[1:], False)
                self.check(3, claims, turned + turned[:1], False)
            self.check(3, claims, ring[::-1], expected_ring(claims, ring[::-1]))

    def test_more_pairs_than_places(self):
        self.check(3, CLASH, CLASH_RING * 250, True)
        self.check(3, CLASH, CLASH_RING * 250 + CLASH_RING[:1], False)

    def test_without_a_strict_step(self):
        claims = ((0, 2, 0), (0, 2, 1), (1, 2, 1))
        self.check(3, claims, ((0, 1), (2, 2)), False)
        self.check(3, ((0, 1, 0), (0, 1, 0)), ((0, 1), (1, 1)), False)
        self.check(3, claims, ((0, 1), (1, 0)), True)
        # A step to the place itself leads nowhere.
        self.check(3, claims, ((0, 0),), False)
        self.check(3, claims, ((0, 1), (1, 1), (1, 0)), False)

    def test_of_other_claims(self):
        self.check(3, ((0, 2, 1),), CLASH_RING, False)
        self.check(3, (), CLASH_RING, False)
        self.check(3, CLASH[::-1], CLASH_RING, False)
        self.check(3, CLASH[::-1], ((1, 0), (0, 1)), True)
        self.check(3, ((0, 2, 1), (1, 2, 1)), CLASH_RING, False)

    def test_a_part_replaced(self):
        parts = NOT_INTEGERS + (-1, -2, 2, 3, 12, 10 ** 39, -10 ** 39, nested_tuples(17))
        for part in parts:
            self.check(3, CLASH, ((part, 0), (1, 1)), False)
            self.check(3, CLASH, ((0, part), (1, 1)), False)
            self.check(3, CLASH, ((0, 0), (part, 1)), False)
            self.check(3, CLASH, ((0, 0), (1, part)), False)
            self.check(3, CLASH, (part, (1, 1)), False)
            self.check(3, CLASH, ((0, 0), part), False)
            self.check(3, CLASH, CLASH_RING + (part,), False)

    def test_other_numbers_of_items(self):
        self.check(3, CLASH, ((0, 0), (1,)), False)
        self.check(3, CLASH, ((0, 0), (1, 1, 1)), False)
        self.check(3, CLASH, ((0, 0, 0), (1, 1)), False)
        self.check(3, CLASH, ((), ()), False)
        self.check(3, CLASH, (0, 0, 1, 1), False)

    def test_lists(self):
        self.check(3, CLASH, list(CLASH_RING), False)
        self.check(3, CLASH, ([0, 0], (1, 1)), False)
        self.check(3, CLASH, ((0, 0), [1, 1]), False)

    def test_other_values(self):
        for value in NOT_TUPLES + ((), nested_tuples(19), "((0, 0), (1, 1))", CLASH):
            self.check(3, CLASH, value, False)


class VerdictTest(unittest.TestCase):

    def check(self, n, claims, value, expected):
        self.assertIs(steady(self, verdict_holds, n, claims, value), expected, (n, claims, value))

    def test_examples(self):
        self.assertEqual(
            [verdict(3, ((0, 2, 1),)), verdict_holds(3, ((0, 2, 1),), ("row", (9, 5, 5))),
             verdict_holds(3, ((0, 2, 1),), ("row", (5, 5, 9)))],
            [("row", (1, 0, 0)), True, False])

    def test_both_kinds(self):
        sets = [(n, claims) for n in range(1, 4) for claims in sets_of_claims(n, 3)]
        sets += [(12, claims) for claims in long_claims()]
        kinds = set()
        for n, claims in sets:
            told = steady(self, verdict, n, claims)
            row = fulfil(n, claims)
            expected = ("ring", find_ring(n, claims)) if row is None else ("row", row)
            self.assertEqual(told, expected)
            self.assertIs(type(told), tuple)
            self.check(n, claims, told, True)
            kinds.add(told[0])
        self.assertEqual(kinds, {"row", "ring"})

    def test_all_rows(self):
        for claims in sets_of_claims(3, 2):
            for row in small_rows(3, 3):
                self.check(3, claims, ("row", row), fulfils(row, claims))

    def test_rows_that_are_not_the_least_ones(self):
        self.check(3, ((0, 2, 1),), ("row", (TOP, -TOP, TOP)), True)
        self.check(3, ((0, 2, 1),), ("row", (2, 1, 1)), True)
        self.check(3, ((0, 2, 1),), ("row", (1, 1, 1)), False)
        for row in LONG_ROWS:
            self.check(12, claims_about(row, 30), ("row", row), True)

    def test_rows_with_another_number_of_places(self):
        for row in ((), (1,), (1, 0), (1, 0, 0, 0), (1, 0, 0) + (0,) * 10):
            self.check(3, ((0, 2, 1),), ("row", row), False)
            self.check(3, (), ("row", row), False)
        self.check(2, (), ("row", (0, 0)), True)

    def test_entries_that_are_none(self):
        for entry in NOT_INTEGERS + (TOP + 1, -TOP - 1, 10 ** 39):
            self.check(3, ((0, 2, 1),), ("row", (entry, 0, 0)), False)
            self.check(3, (), ("row", (0, 0, entry)), False)
        self.check(3, ((0, 2, 1),), ("row", (True, False, False)), False)
        self.check(3, (), ("row", [0, 0, 0]), False)

    def test_a_ring_called_a_row_and_the_other_way_round(self):
        self.check(3, CLASH, ("ring", CLASH_RING), True)
        self.check(3, CLASH, ("row", CLASH_RING), False)
        self.check(3, ((0, 2, 1),), ("row", (1, 0, 0)), True)
        self.check(3, ((0, 2, 1),), ("ring", (1, 0, 0)), False)

    def test_other_texts(self):
        for word in ("", "Row", "ROW", "row ", " row", "rows", "ring\n", "r", "rin", "rows ring"):
            self.check(3, CLASH, (word, CLASH_RING), False)
            self.check(3, (), (word, (0, 0, 0)), False)

    def test_other_values(self):
        for word in NOT_INTEGERS + (0, 1, ("row",), ["row"], nested_tuples(18)):
            self.check(3, CLASH, (word, CLASH_RING), False)
            self.check(3, (), (word, (0, 0, 0)), False)
        for value in NOT_TUPLES + ((), ("row",), ("ring",), "row", nested_tuples(19)):
            self.check(3, (), value, False)
            self.check(3, (), ("row", value), False)
            self.check(3, CLASH, ("ring", value), False)
        self.check(3, (), ["row", (0, 0, 0)], False)
        self.check(3, (), ("row", (0, 0, 0), (0, 0, 0)), False)
        self.check(3, CLASH, ["ring", CLASH_RING], False)
        self.check(3, CLASH, ("ring", CLASH_RING, None), False)


if __name__ == "__main__":
    unittest.main()
