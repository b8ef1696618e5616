"""Tests of leastplaces.bounds: the values of points [4], [8], [9], [12], [13]."""

import unittest

from leastplaces import bounds


class BoundsTest(unittest.TestCase):

    def check(self, name, value):
        found = getattr(bounds, name)
        self.assertIs(type(found), int, name)
        self.assertEqual(found, value, name)

    def test_rows(self):
        self.check("MAX_PLACES", 12)
        self.check("MAX_ENTRY", 1000000000)

    def test_counting(self):
        self.check("MAX_COUNT", 60)

    def test_claims(self):
        self.check("MAX_CLAIMS", 30)

    def test_texts(self):
        self.check("MAX_TEXT", 60)
        self.check("MAX_TIMES", 1000000000000)

    def test_ledgers(self):
        self.check("MAX_EDITS", 60)
        self.check("BATCH", 20)


if __name__ == "__main__":
    unittest.main()
