"""Tests of leastplaces.texts: points [3] and [15]."""

import unittest

from leastplaces.errors import BadText
from leastplaces.texts import claims_text, parse_claims, parse_row, places_text, row_text
from samples import (
    LONG_ROWS, NOT_TUPLES, TOP, all_claims, claims_about, is_plain, mixed_claims, mixed_rows,
    nested_tuples, refused, small_rows, steady)

NOT_TEXTS = tuple(value for value in NOT_TUPLES if not isinstance(value, str)) + (
    (), (0,), ("0",), ["3 -1"], {"3": "1"}, nested_tuples(19), 3)

# Words that are no texts of integers, though some of them look like one.
NOT_NUMBERS = (
    "", "-", "+", "-0", "+0", "+1", "00", "01", "-01", "007", "--1", "-+1", "1-", "1.0", "1e3", "0x1",
    "1_0", "a", "1a", "a1", "\n", "1\n", "\n1", "True", "None", "one", ",", "1,", "(1)", "0" * 2000,
    "9" * 2000, "-" + "9" * 1999, "~", ":", ">")


class RowTextTest(unittest.TestCase):

    def test_examples(self):
        self.assertEqual(
            [row_text((3, -1)), places_text(()), claims_text(4, ((0, 2, 1), (1, 3, 3))), claims_text(2, ())],
            ["3 -1", "none", "4: 0-2>1 1-3>3", "2:"])
        self.assertEqual(
            [parse_row("3 -1"), parse_claims("2:"), parse_claims("4: 0-2>1")],
            [(3, -1), (2, ()), (4, ((0, 2, 1),))])
        self.assertEqual(refused(self, BadText, parse_claims, "4: 0-2>1 2-0>1").index, 2)

    def check(self, row, text):
        told = steady(self, row_text, row)
        self.assertIs(type(told), str)
        self.assertEqual(told, text)
        found = steady(self, parse_row, text)
        self.assertTrue(type(found) is tuple and is_plain(found))
        self.assertEqual(found, row)

    def test_there_and_back(self):
        rows = [row for many in range(1, 5) for row in small_rows(many)]
        rows += mixed_rows() + list(LONG_ROWS) + [(0,), (-1,), (TOP,), (-TOP,), (-10, 10, 0, -100)]
        for row in rows:
            self.check(row, " ".join("%d" % entry for entry in row))

    def test_rows_with_great_entries(self):
        self.check((TOP, -TOP), "1000000000 -1000000000")
        self.check((999999999, -999999999, 10, -10), "999999999 -999999999 10 -10")

    def test_places_text(self):
        self.assertEqual(places_text((0,)), "0")
        self.assertEqual(places_text((1, 3)), "1 3")
        self.assertEqual(places_text(tuple(range(12))), "0 1 2 3 4 5 6 7 8 9 10 11")
        self.assertEqual(steady(self, places_text, ()), "none")
        self.assertEqual(steady(self, places_text, (11, 2)), "11 2")


class ParseRowTest(unittest.TestCase):

    def check_bad(self, text, index):
        error = refused(self, BadText, parse_row, text)
        self.assertIs(type(error.index), type(index), text)
        self.assertEqual(error.index, index, text)

    def test_values_that_are_no_texts(self):
        for value in NOT_TEXTS:
            self.check_bad(value, None)

    def test_words_that_are_no_integers(self):
        for word in NOT_NUMBERS:
            self.check_bad(word, 0)
            self.check_bad("5 " + word, 1)
            self.check_bad("5 " + word + " 6", 1)
            self.check_bad(word + " 6", 0)
            self.check_bad("0 " * 11 + word, 11)

    def test_limits_of_entries(self):
        self.assertEqual(parse_row("1000000000"), (TOP,))
        self.assertEqual(parse_row("-1000000000"), (-TOP,))
        for word in ("1000000001", "-1000000001", "9999999999", "10000000000", "1" * 40, "-" + "1" * 40):
            self.check_bad(word, 0)
            self.check_bad("1 2 " + word + " x", 2)

    def test_spaces(self):
        self.check_bad("", 0)
        self.check_bad(" ", 0)
        self.check_bad(" 1", 0)
        self.check_bad("1 ", 1)
        self.check_bad("1  2", 1)
        self.check_bad("1 2  3", 2)
        self.check_bad("1\n2", 0)

    def test_numbers_of_entries(self):
        for many in range(1, 13):
            self.assertEqual(parse_row(" ".join(["7"] * many)), (7,) * many)
        for many in (13, 14, 100, 999):
            self.check_bad(" ".join(["7"] * many), 12)

    def test_the_first_wrong_word(self):
        self.check_bad("1 x y", 1)
        self.check_bad("1 2 x " + "3 " * 20, 2)
        self.check_bad("1 " * 12 + "x", 12)
        self.check_bad("1 " * 11 + "x 1 1", 11)
        self.check_bad("1 2 -0 00", 2)


class ClaimsTextTest(unittest.TestCase):

    def check(self, n, claims, text):
        told = steady(self, claims_text, n, claims)
        self.assertIs(type(told), str)
        self.assertEqual(told, text)
        found = steady(self, parse_claims, text)
        self.assertTrue(type(found) is tuple and is_plain(found))
        self.assertEqual(found, (n, claims))

    def test_there_and_back(self):
        for n in range(1, 13):
            self.check(n, (), "%d:" % n)
            for claim in all_claims(n):
                self.check(n, (claim,), "%d: %d-%d>%d" % (n, *claim))
        for row in LONG_ROWS:
            for many in (1, 5, 30):
                claims = claims_about(row, many)
                self.check(12, claims, "12:" + "".join(" %d-%d>%d" % claim for claim in claims))

    def test_claims_in_any_order_and_equal_ones(self):
        for n in (3, 7, 12):
            for by in range(1, 5):
                claims = mixed_claims(30, n, by)
                self.check(n, claims, "%d:" % n + "".join(" %d-%d>%d" % claim for claim in claims))

    def test_claims_that_contradict_one_another(self):
        self.check(3, ((0, 2, 1), (0, 1, 0)), "3: 0-2>1 0-1>0")


class ParseClaimsTest(unittest.TestCase):

    def check_bad(self, text, index):
        error = refused(self, BadText, parse_claims, text)
        self.assertIs(type(error.index), type(index), text)
        self.assertEqual(error.index, index, text)

    def test_values_that_are_no_texts(self):
        for value in NOT_TEXTS + ((4, ((0, 2, 1),)), ["4:"]):
            self.check_bad(value, None)

    def test_the_number_of_places(self):
        for word in NOT_NUMBERS:
            self.check_bad(word, 0)
            self.check_bad(word + ":", 0)
            self.check_bad(word + ": 0-0>0", 0)
        for word in ("0:", "13:", "-1:", "-4:", "12", "4", "4::", ":4", ":", "4 :", "04:", "4:0-2>1", "100:"):
            self.check_bad(word, 0)
            self.check_bad(word + " 0-0>0", 0)

    def test_spaces(self):
        self.check_bad("", 0)
        self.check_bad(" ", 0)
        self.check_bad(" 4:", 0)
        self.check_bad("4: ", 1)
        self.check_bad("4:  0-2>1", 1)
        self.check_bad("4: 0-2>1 ", 2)
        self.check_bad("4: 0-2>1  0-2>1", 2)
        self.check_bad("4: 0 - 2 > 1", 1)

    def test_words_that_are_no_claims(self):
        words = [
            "", "-", ">", "->", "0", "0-2", "0>1", "0-2>", "-2>1", "0->1", "0-2-1", "0>2>1", "0-2>1>",
            "0-2>1-", "-0-2>1", "0--2>1", "0-2>-1", "0-2>+1", "00-2>1", "0-02>1", "0-2>01", "0-2>1\n",
            "0-2>1,", "(0-2>1)", "0_2>1", "0-2>1.0", "a-2>1", "0-b>1", "0-2>c", "0>2-1", "0-2>1:", "4:",
            "0-2>" + "1" * 1000, "9" * 1900 + "-2>1"]
        for word in words:
            self.check_bad("4: " + word, 1)
            self.check_bad("4: 0-2>1 " + word + " x", 2)
            self.check_bad("4:" + " 0-0>0" * 29 + " " + word, 30)

    def test_claims_that_are_none_for_n(self):
        for word in ("0-4>1", "0-2>3", "2-0>1", "1-2>0", "3-4>4", "4-4>4", "0-11>5", "100-100>100"):
            self.check_bad("4: " + word, 1)
            self.check_bad("4: 0-2>1 " + word, 2)
        self.assertEqual(parse_claims("12: 0-11>5 11-11>11"), (12, ((0, 11, 5), (11, 11, 11))))
        self.check_bad("11: 0-11>5", 1)
        self.check_bad("1: 0-1>0", 1)

    def test_numbers_of_claims(self):
        for many in range(31):
            self.assertEqual(parse_claims("4:" + " 0-2>1" * many), (4, ((0, 2, 1),) * many))
        for many in (31, 32, 300):
            self.check_bad("4:" + " 0-2>1" * many, 31)

    def test_the_first_wrong_word(self):
        self.check_bad("x 0-9>9", 0)
        self.check_bad("4: x y", 1)
        self.check_bad("4:" + " 0-2>1" * 5 + " 2-0>1" + " 0-2>1" * 40, 6)
        self.check_bad("4:" + " 0-2>1" * 30 + " x", 31)
        self.check_bad("4:" + " 0-2>1" * 29 + " x 0-2>1", 30)


if __name__ == "__main__":
    unittest.main()
