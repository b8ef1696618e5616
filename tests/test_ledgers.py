"""Tests of leastplaces.ledgers: points [3], [13] and [14], and guarantee (h) of [2]."""

import inspect
import itertools
import random
import unittest

from leastplaces.answers import follows
from leastplaces.bounds import MAX_EDITS
from leastplaces.claims import fulfil, ring_holds
from leastplaces.errors import (
    BadEdit, BadEdits, BadSize, BadText, Busy, Contradiction, Needless, NoClaim, NoIndex,
    NothingToUndo, NoVersion, NoWindow, Rejected, TooManyClaims, TooManyEdits)
from leastplaces.ledgers import Ledger, LoggedLedger, LoggedThriftyLedger, ThriftyLedger
from samples import (
    LONG_ROWS, NOT_CLAIMS, NOT_INTEGERS, NOT_TUPLES, all_claims, claims_about, expected_place,
    fulfils, nested_tuples, small_rows, windows)

CLASSES = (Ledger, ThriftyLedger, LoggedLedger, LoggedThriftyLedger)
THRIFTY = (ThriftyLedger, LoggedThriftyLedger)
LOGGED = (LoggedLedger, LoggedThriftyLedger)

NO_WINDOWS = NOT_TUPLES + (
    (), (0,), (0, 1, 2), (1, 0), (3, 2), (-1, 0), (0, 4), (4, 4), (-1, -1), (True, 2), (0, True),
    (False, 0), (False, True), (0, None), (None, 0), ("0", "1"), ((0, 1),), (0, [1]), [0, 1], "01",
    (0, 10 ** 39), nested_tuples(19))

NO_EDITS = NOT_TUPLES + (
    (), ("claim",), ("drop",), ("claim", 0, 2), ("claim", 0, 2, 1, 1), ("drop", 0, 0), ("undo",),
    ("run", []), ("Claim", 0, 2, 1), ("claims", 0, 2, 1), ("drop ", 0), (None, 0, 2, 1), (0, 0),
    (("claim",), 0, 2, 1), (["drop"], 0), ("claim", 0), ("drop", 0, 2, 1), ["claim", 0, 2, 1],
    ["drop", 0], "claim", "drop", ({"drop": 0}, 0), nested_tuples(19), ("look", (0, 1)))


class Stop(Exception):
    """An exception that only the tests raise."""


def state(ledger):
    """All that a ledger tells."""
    return (
        ledger.claims, ledger.version, ledger.size, ledger.row, ledger.window, ledger.possible,
        ledger.edits(), list(ledger.walk()), len(ledger), str(ledger),
        [ledger.claims_at(version) for version in range(ledger.version + 1)],
        [ledger.asked(first, last) for first, last in windows(ledger.size)],
        getattr(ledger, "log", None))


def full(kind, n=4):
    """A ledger with 60 edits in effect."""
    ledger = kind(n)
    for _ in range(30):
        ledger.claim(0, 1, 0)
        ledger.drop(0)
    return ledger


def crowded(kind):
    """A ledger with 30 claims, none of which follows from those before it."""
    ledger = kind(12)
    # Windows that end at their least place and grow to the left.
    for place in range(11, 1, -1):
        for first in range(place - 1, -1, -1):
            if len(ledger) < 30:
                ledger.claim(first, place, place)
    return ledger


class LedgerTest(unittest.TestCase):

    def check_refused(self, ledger, kind, call, *values):
        """The error of a call that must leave the ledger and the arguments as they are."""
        before, shown = state(ledger), repr(values)
        for _ in range(2):
            with self.assertRaises(kind) as caught:
                call(*values)
            self.assertIs(type(caught.exception), kind)
            self.assertEqual(state(ledger), before)
            self.assertEqual(repr(values), shown)
        return caught.exception

    def check_told(self, ledger, edits, claims):
        """What a ledger with these edits in effect and claims tells."""
        n = ledger.size
        rows = [row for row in small_rows(n, n) if fulfils(row, claims)]
        self.assertEqual(ledger.claims, claims)
        self.assertEqual(ledger.edits(), edits)
        self.assertEqual(ledger.version, len(edits))
        self.assertEqual(ledger.row, fulfil(n, claims))
        self.assertIn(ledger.row, rows)
        first, last = ledger.window
        possible = tuple(sorted({expected_place(row, first, last) for row in rows}))
        self.assertEqual(ledger.possible, possible)
        self.assertEqual(len(ledger), len(claims))
        self.assertEqual(str(ledger), f"{n} places, {len(claims)} claims, {len(edits)} edits")
        for first, last in windows(n):
            places = {expected_place(row, first, last) for row in rows}
            self.assertEqual(ledger.asked(first, last), places.pop() if len(places) == 1 else None)
        for told in (ledger.claims, ledger.edits(), ledger.row, ledger.window, ledger.possible):
            self.assertIs(type(told), tuple)
        for told in (ledger.version, ledger.size, len(ledger)):
            self.assertIs(type(told), int)


class SizeTest(LedgerTest):

    def test_example(self):
        self.assertEqual(str(Ledger(4)), "4 places, 0 claims, 0 edits")

    def test_all_sizes(self):
        for kind in CLASSES:
            for n in range(1, 13):
                ledger = kind(n)
                self.assertIs(type(ledger), kind)
                self.assertEqual(ledger.size, n)
                self.assertEqual(ledger.window, (0, n - 1))
                self.assertEqual(ledger.row, (0,) * n)
                self.assertEqual(ledger.possible, tuple(range(n)))
                self.assertEqual((ledger.claims, ledger.version, ledger.edits()), ((), 0, ()))
                self.assertEqual(list(ledger.walk()), [(0, ())])

    def test_bad_size(self):
        for kind in CLASSES:
            for value in NOT_INTEGERS + (0, -1, 13, 14, 10 ** 39, -10 ** 39, [1], nested_tuples(19)):
                with self.assertRaises(BadSize) as caught:
                    kind(value)
                self.assertIs(caught.exception.value, value)

    def test_class_values(self):
        for kind in CLASSES:
            self.assertEqual(kind.MOST_EDITS, MAX_EDITS)
            self.assertEqual(kind.MOST_EDITS, 60)
            self.assertEqual(kind.WORDS, ("claim", "drop"))

    def test_methods_stand_in_the_class_itself(self):
        names = (
            "__init__ read is_edit claims version size row window possible look claim drop undo run "
            "asked claims_at edits walk copy __len__ __str__ __eq__").split()
        for name in names:
            self.assertIn(name, vars(Ledger))
        self.assertIn("claim", vars(ThriftyLedger))
        self.assertIn("log", vars(LoggedLedger))

    def test_bases(self):
        self.assertEqual(ThriftyLedger.__bases__, (Ledger,))
        self.assertEqual(LoggedLedger.__bases__, (Ledger,))
        self.assertEqual(LoggedThriftyLedger.__bases__, (LoggedLedger, ThriftyLedger))


class EditTest(LedgerTest):

    def test_examples(self):
        ledger = Ledger(4)
        self.assertEqual(
            [ledger.claim(0, 2, 1), ledger.claims, ledger.row, ledger.possible],
            [1, ((0, 2, 1),), (1, 0, 0, 0), (1, 3)])
        ledger = Ledger(3)
        self.assertEqual(
            [ledger.claim(0, 2, 1), ledger.claim(0, 1, 1), ledger.drop(0), ledger.claims],
            [1, 2, 3, ((0, 1, 1),)])
        ledger = Ledger(3)
        self.assertEqual([ledger.claim(0, 2, 1), ledger.undo(), ledger.claims], [1, 0, ()])

    def test_all_properties_after_each_step(self):
        for kind in CLASSES:
            ledger = kind(4)
            self.check_told(ledger, (), ())
            self.assertEqual(ledger.claim(0, 2, 1), 1)
            one = ("claim", 0, 2, 1)
            self.check_told(ledger, (one,), ((0, 2, 1),))
            self.assertEqual(ledger.claim(2, 3, 3), 2)
            two = ("claim", 2, 3, 3)
            self.check_told(ledger, (one, two), ((0, 2, 1), (2, 3, 3)))
            self.assertEqual(ledger.claim(0, 3, 3), 3)
            three = ("claim", 0, 3, 3)
            self.check_told(ledger, (one, two, three), ((0, 2, 1), (2, 3, 3), (0, 3, 3)))
            self.assertEqual(ledger.drop(1), 4)
            four = ("drop", 1)
            self.check_told(ledger, (one, two, three, four), ((0, 2, 1), (0, 3, 3)))
            self.assertEqual(ledger.drop(0), 5)
            self.check_told(ledger, (one, two, three, four, ("drop", 0)), ((0, 3, 3),))
            self.assertEqual(ledger.undo(), 4)
            self.check_told(ledger, (one, two, three, four), ((0, 2, 1), (0, 3, 3)))
            self.assertEqual([ledger.undo(), ledger.undo()], [3, 2])
            self.check_told(ledger, (one, two), ((0, 2, 1), (2, 3, 3)))
            self.assertEqual([ledger.undo(), ledger.undo()], [1, 0])
            self.check_told(ledger, (), ())
            self.check_refused(ledger, NothingToUndo, ledger.undo)

    def test_no_claim(self):
        for kind in CLASSES:
            ledger = kind(3)
            ledger.claim(0, 1, 1)
            for value in NOT_CLAIMS:
                if isinstance(value, tuple) and len(value) == 3:
                    error = self.check_refused(ledger, NoClaim, ledger.claim, *value)
                    self.assertIs(type(error.value), tuple)
                    self.assertEqual(len(error.value), 3)
                    for part, told in zip(value, error.value):
                        self.assertIs(told, part)
            for part in NOT_INTEGERS + (-1, 3, nested_tuples(19)):
                for parts in ((part, 2, 1), (0, part, 1), (0, 2, part)):
                    self.check_refused(ledger, NoClaim, ledger.claim, *parts)

    def test_contradiction(self):
        for kind in CLASSES:
            for claims in itertools.permutations(all_claims(3), 2):
                ledger = kind(3)
                rows = [row for row in small_rows(3, 3) if fulfils(row, claims)]
                if kind in THRIFTY and follows(3, (), claims[0]):
                    continue
                ledger.claim(*claims[0])
                if not rows:
                    error = self.check_refused(ledger, Contradiction, ledger.claim, *claims[1])
                    self.assertIs(ring_holds(3, claims, error.ring), True)
                elif kind not in THRIFTY:
                    self.assertEqual(ledger.claim(*claims[1]), 2)

    def test_a_contradiction_with_many_claims(self):
        for row in LONG_ROWS:
            ledger = Ledger(12)
            claims = claims_about(row, 20)
            for claim in claims:
                ledger.claim(*claim)
            for claim in all_claims(12):
                if fulfil(12, claims + (claim,)) is None:
                    with self.assertRaises(Contradiction) as caught:
                        ledger.claim(*claim)
                    self.assertIs(ring_holds(12, claims + (claim,), caught.exception.ring), True)
            self.assertEqual(ledger.claims, claims)

    def test_no_index(self):
        for kind in CLASSES:
            ledger = kind(4)
            for value in (0, -1, 1):
                self.assertEqual(self.check_refused(ledger, NoIndex, ledger.drop, value).value, value)
            ledger.claim(0, 1, 1)
            ledger.claim(2, 3, 2)
            for value in NOT_INTEGERS + (-1, -2, 2, 3, 10 ** 39, -10 ** 39, nested_tuples(19)):
                error = self.check_refused(ledger, NoIndex, ledger.drop, value)
                self.assertIs(error.value, value)

    def test_thirty_claims(self):
        for kind in CLASSES:
            ledger = crowded(kind)
            self.assertEqual(len(ledger), 30)
            self.check_refused(ledger, TooManyClaims, ledger.claim, 0, 1, 1)
            # Also if the claim contradicts the others or follows from them.
            self.check_refused(ledger, TooManyClaims, ledger.claim, 10, 11, 10)
            self.check_refused(ledger, TooManyClaims, ledger.claim, 10, 11, 11)
            self.check_refused(ledger, NoClaim, ledger.claim, 0, 12, 1)
            self.assertEqual(ledger.drop(29), 31)
            self.assertEqual(ledger.claim(0, 1, 1), 32)
            self.check_refused(ledger, TooManyClaims, ledger.claim, 0, 1, 1)

    def test_sixty_edits(self):
        for kind in CLASSES:
            ledger = full(kind)
            self.assertEqual(ledger.version, 60)
            # It comes before all other errors.
            for values in ((0, 1, 0), (0, 9, 0), (None, [], True)):
                self.check_refused(ledger, TooManyEdits, ledger.claim, *values)
            for value in (0, None, -1):
                self.check_refused(ledger, TooManyEdits, ledger.drop, value)
            self.assertEqual(ledger.undo(), 59)
            self.check_refused(ledger, NoIndex, ledger.drop, 1)
            self.check_refused(ledger, NoClaim, ledger.claim, 0, 9, 0)
            self.check_refused(ledger, Contradiction, ledger.claim, 0, 1, 1)
            self.assertEqual(ledger.drop(0), 60)
            self.check_refused(ledger, TooManyEdits, ledger.drop, 0)

    def test_sixty_edits_with_thirty_claims(self):
        ledger = crowded(Ledger)
        for _ in range(15):
            ledger.drop(29)
            ledger.claim(0, 1, 1)
        self.assertEqual((len(ledger), ledger.version), (30, 60))
        self.check_refused(ledger, TooManyEdits, ledger.claim, 0, 1, 1)
        self.check_refused(ledger, TooManyEdits, ledger.claim, 0, 12, 1)

    def test_properties_cannot_be_assigned(self):
        for kind in CLASSES:
            ledger = kind(3)
            ledger.claim(0, 1, 1)
            before = state(ledger)
            names = ["claims", "version", "size", "row", "possible"]
            for name in names + (["log"] if kind in LOGGED else []):
                for value in (getattr(ledger, name), None, ()):
                    with self.assertRaises(AttributeError):
                        setattr(ledger, name, value)
            self.assertEqual(state(ledger), before)

    def test_undo_after_errors(self):
        ledger = Ledger(3)
        ledger.claim(0, 2, 1)
        for call, values in ((ledger.claim, (0, 1, 0)), (ledger.claim, (3, 3, 3)), (ledger.drop, (1,))):
            with self.assertRaises((ValueError, LookupError)):
                call(*values)
        self.assertEqual(ledger.undo(), 0)
        self.assertEqual(ledger.claims, ())

    def test_a_claim_after_undo(self):
        ledger = Ledger(3)
        ledger.claim(0, 2, 1)
        ledger.undo()
        self.assertEqual(ledger.claim(0, 2, 0), 1)
        self.check_told(ledger, (("claim", 0, 2, 0),), ((0, 2, 0),))

    def test_what_is_told_depends_on_the_claims_only(self):
        # Guarantee (h), for ledgers with the same claims and different edits.
        for claims in itertools.combinations(all_claims(3), 2):
            if fulfil(3, claims) is None:
                continue
            one, other = Ledger(3), Ledger(3)
            for claim in claims:
                one.claim(*claim)
            other.claim(*claims[0])
            other.claim(*claims[0])
            other.claim(*claims[1])
            other.drop(0)
            other.claim(1, 1, 1)
            other.undo()
            for window in windows(3):
                self.assertEqual(one.look(window), other.look(window))
            self.assertEqual((one.claims, one.row), (other.claims, other.row))
            self.assertTrue(one == other)


class WindowTest(LedgerTest):

    def test_example(self):
        ledger = Ledger(4)
        self.assertEqual(
            [ledger.look((1, 2)), ledger.claim(0, 2, 1), ledger.possible, ledger.window],
            [(1, 2), 1, (1,), (1, 2)])

    def test_all_windows(self):
        for kind in CLASSES:
            ledger = kind(4)
            ledger.claim(0, 2, 1)
            rows = [row for row in small_rows(4, 4) if fulfils(row, ledger.claims)]
            for window in windows(4):
                expected = tuple(sorted({expected_place(row, *window) for row in rows}))
                ledger.window = (0, 3)
                self.assertEqual(ledger.look(window), expected)
                self.assertEqual((ledger.window, ledger.possible), (window, expected))
                ledger.window = (0, 3)
                ledger.window = window
                self.assertEqual((ledger.window, ledger.possible), (window, expected))
            self.assertEqual((ledger.version, ledger.edits()), (1, (("claim", 0, 2, 1),)))

    def test_no_window(self):
        for kind in CLASSES:
            ledger = kind(4)
            ledger.claim(0, 2, 1)
            ledger.window = (1, 3)
            for value in NO_WINDOWS:
                error = self.check_refused(ledger, NoWindow, ledger.look, value)
                self.assertIs(error.value, value)
                error = self.check_refused(ledger, NoWindow, setattr, ledger, "window", value)
                self.assertIs(error.value, value)
            self.assertEqual(ledger.window, (1, 3))

    def test_after_undo_errors_and_edits(self):
        ledger = Ledger(4)
        ledger.claim(0, 2, 1)
        ledger.look((1, 2))
        ledger.undo()
        self.assertEqual((ledger.window, ledger.possible), ((1, 2), (1, 2)))
        self.check_refused(ledger, NothingToUndo, ledger.undo)
        self.check_refused(ledger, NoClaim, ledger.claim, 0, 4, 1)
        ledger.claim(1, 2, 2)
        self.assertEqual((ledger.window, ledger.possible), ((1, 2), (2,)))
        ledger.drop(0)
        self.assertEqual((ledger.window, ledger.possible), ((1, 2), (1, 2)))

    def test_after_run(self):
        ledger = Ledger(4)
        ledger.window = (1, 2)
        ledger.run([("claim", 0, 2, 1)])
        self.assertEqual((ledger.window, ledger.possible), ((1, 2), (1,)))
        seen = []

        def on_step(told):
            seen.append(told.window)
            self.assertEqual(told.look((0, len(told))), told.possible)

        ledger.run([("claim", 2, 3, 3), ("claim", 1, 3, 1)], on_step=on_step)
        self.assertEqual(seen, [(1, 2), (0, 2)])
        self.assertEqual(ledger.window, (0, 3))

    def test_after_a_run_that_fails(self):
        def on_step(told):
            told.window = (0, 0)
            told.look((1, 1))

        for kind in CLASSES:
            for window in ((0, 2), (1, 2)):
                ledger = kind(3)
                ledger.window = window
                before = state(ledger)
                with self.assertRaises(Rejected):
                    ledger.run([("claim", 0, 2, 1), ("claim", 0, 1, 0)], on_step=on_step)
                self.assertEqual(state(ledger), before)
                self.assertEqual(ledger.window, window)

    def test_after_an_exception_in_on_step(self):
        def on_step(told):
            told.look((1, 1))
            if told.version == 2:
                raise Stop()

        for kind in CLASSES:
            ledger = kind(4)
            ledger.window = (0, 2)
            before = state(ledger)
            with self.assertRaises(Stop):
                ledger.run([("claim", 0, 1, 1), ("claim", 2, 3, 2)], on_step=on_step)
            self.assertEqual(state(ledger), before)

    def test_a_wrong_window_within_on_step(self):
        def on_step(told):
            told.window = (1, 2)
            told.window = (2, 1)

        ledger = Ledger(3)
        before = state(ledger)
        with self.assertRaises(NoWindow) as caught:
            ledger.run([("claim", 0, 1, 1)], on_step=on_step)
        self.assertEqual(caught.exception.value, (2, 1))
        self.assertEqual(state(ledger), before)


class IsEditTest(unittest.TestCase):

    def test_edits(self):
        for kind in CLASSES:
            for part in NOT_INTEGERS + (0, -1, nested_tuples(19)):
                self.assertIs(kind.is_edit(("drop", part)), True)
                self.assertIs(kind.is_edit(("claim", part, 0, part)), True)
                self.assertIs(kind(3).is_edit(("claim", part, part, part)), True)

    def test_no_edits(self):
        for kind in CLASSES:
            for value in NO_EDITS:
                before = repr(value)
                self.assertIs(kind.is_edit(value), False, value)
                self.assertIs(kind.is_edit((value,)), False)
                self.assertIs(kind.is_edit((value, 0)), value == "drop")
                self.assertIs(kind.is_edit((value, 0, 0, 0)), value == "claim")
                self.assertEqual(repr(value), before)


class ReadTest(unittest.TestCase):

    def test_example(self):
        self.assertEqual(
            [Ledger.read("3: 0-2>1").claims, Ledger.is_edit(("claim", 0, 2, None)),
             Ledger.is_edit(("drop",))],
            [((0, 2, 1),), True, False])

    def test_claims_become_edits(self):
        for kind in CLASSES:
            ledger = kind.read("4: 0-1>1 2-3>2 0-3>2")
            claims = ((0, 1, 1), (2, 3, 2), (0, 3, 2))
            self.assertIs(type(ledger), kind)
            self.assertEqual((ledger.size, ledger.claims), (4, claims))
            self.assertEqual(ledger.edits(), tuple(("claim", *claim) for claim in claims))
            self.assertEqual(ledger.window, (0, 3))
            self.assertEqual([ledger.undo() for _ in range(3)], [2, 1, 0])
            self.assertEqual(kind.read("7:").claims, ())
            self.assertEqual(str(kind.read("7:")), "7 places, 0 claims, 0 edits")

    def test_thirty_claims(self):
        for row in LONG_ROWS:
            claims = claims_about(row, 30)
            text = "12:" + "".join(" %d-%d>%d" % claim for claim in claims)
            ledger = Ledger.read(text)
            self.assertEqual((ledger.claims, ledger.version), (claims, 30))
            with self.assertRaises(BadText) as caught:
                Ledger.read(text + " 0-0>0")
            self.assertEqual(caught.exception.index, 31)

    def test_bad_text(self):
        texts = {"": 0, "0:": 0, "13:": 0, "4": 0, "4: 0-4>0": 1, "4: 0-1>0 x": 2, "4: ": 1}
        for kind in CLASSES:
            for text, index in texts.items():
                with self.assertRaises(BadText) as caught:
                    kind.read(text)
                self.assertEqual(caught.exception.index, index)
            for value in (None, 4, True, ("4:",), ["4:"], {"4:": 1}):
                with self.assertRaises(BadText) as caught:
                    kind.read(value)
                self.assertIsNone(caught.exception.index)

    def test_rejected(self):
        for kind in CLASSES:
            for text, index in (("3: 0-2>1 0-1>0", 1), ("4: 0-1>1 2-3>2 0-1>0 2-3>3", 2)):
                for _ in range(2):
                    with self.assertRaises(Rejected) as caught:
                        kind.read(text)
                    self.assertEqual(caught.exception.index, index)
            # A wrong text comes first.
            with self.assertRaises(BadText) as caught:
                kind.read("3: 0-2>1 0-1>0 x")
            self.assertEqual(caught.exception.index, 3)

    def test_claims_that_follow(self):
        for kind in CLASSES:
            if kind in THRIFTY:
                for text, index in (("3: 0-2>1 1-2>1", 1), ("3: 0-0>0", 0), ("3: 0-1>0 0-1>0", 1)):
                    with self.assertRaises(Rejected) as caught:
                        kind.read(text)
                    self.assertEqual(caught.exception.index, index)
            else:
                self.assertEqual(len(kind.read("3: 0-2>1 1-2>1 0-2>1")), 3)


class RunTest(LedgerTest):

    # For 4 places; none of them follows from those before it.
    BATCH = (("claim", 0, 1, 1), ("claim", 2, 3, 2), ("drop", 0), ("claim", 0, 3, 0))

    def test_example(self):
        ledger = Ledger(3)
        error = self.check_refused(
            ledger, Rejected, ledger.run, [("claim", 0, 2, 1), ("claim", 0, 1, 0)])
        self.assertEqual(error.index, 1)

    def test_lists_and_tuples(self):
        for kind in CLASSES:
            for edits in (list(self.BATCH), self.BATCH):
                ledger = kind(4)
                before = repr(edits)
                self.assertEqual(ledger.run(edits), 4)
                self.assertEqual(repr(edits), before)
                self.check_told(ledger, self.BATCH, ((2, 3, 2), (0, 3, 0)))
                # Each edit can be undone by itself.
                self.assertEqual(ledger.undo(), 3)
                self.check_told(ledger, self.BATCH[:3], ((2, 3, 2),))
                self.assertEqual(ledger.undo(), 2)
                self.check_told(ledger, self.BATCH[:2], ((0, 1, 1), (2, 3, 2)))

    def test_an_empty_batch(self):
        for kind in CLASSES:
            ledger = kind(3)
            ledger.claim(0, 1, 1)
            for edits in ([], ()):
                self.assertEqual(ledger.run(edits), 1)
                self.assertEqual(ledger.run(edits, on_step=self.fail), 1)
                self.assertEqual(ledger.run(edits, on_step=None), 1)
            self.assertEqual(ledger.edits(), (("claim", 0, 1, 1),))
            self.assertEqual(full(kind).run([]), 60)

    def test_numbers_of_edits(self):
        twenty = [("claim", 0, 1, 1), ("drop", 0)] * 10
        for kind in CLASSES:
            ledger = kind(3)
            self.assertEqual(ledger.run(twenty), 20)
            self.check_refused(ledger, BadEdits, ledger.run, twenty + [("claim", 0, 1, 1)])
            self.check_refused(ledger, BadEdits, ledger.run, tuple(twenty) + (None,))
            self.check_refused(ledger, BadEdits, ledger.run, [None] * 21)
            self.assertEqual([ledger.run(twenty), ledger.run(tuple(twenty))], [40, 60])
            self.assertEqual(self.check_refused(ledger, Rejected, ledger.run, twenty).index, 0)

    def test_too_many_edits_in_a_run(self):
        ledger = full(Ledger)
        ledger.undo()
        ledger.undo()
        edits = [("claim", 0, 1, 1), ("drop", 0), ("claim", 0, 1, 1)]
        self.assertEqual(self.check_refused(ledger, Rejected, ledger.run, edits).index, 2)
        self.assertEqual(ledger.run(edits[:2]), 60)

    def test_bad_edits(self):
        for kind in CLASSES:
            ledger = kind(3)
            ledger.claim(0, 1, 1)
            for value in NOT_TUPLES:
                if not isinstance(value, list):
                    self.check_refused(ledger, BadEdits, ledger.run, value)

    def test_bad_edit(self):
        for kind in CLASSES:
            ledger = kind(4)
            ledger.claim(1, 2, 1)
            for value in NO_EDITS:
                for index in (0, 1, 3):
                    edits = [("claim", 0, 1, 1)] * index + [value] + [("drop", 0)] * 2
                    for batch in (edits, tuple(edits)):
                        error = self.check_refused(ledger, BadEdit, ledger.run, batch)
                        self.assertEqual(error.index, index)
                edits = [("drop", None)] * 19 + [value]
                self.assertEqual(self.check_refused(ledger, BadEdit, ledger.run, edits).index, 19)

    def test_bad_edit_comes_before_rejected(self):
        ledger = Ledger(3)
        edits = [("drop", 5), ("claim", 9, 9, 9), ("undo",), None]
        self.assertEqual(self.check_refused(ledger, BadEdit, ledger.run, edits).index, 2)

    def test_a_tuple_that_is_an_edit_is_no_batch(self):
        ledger = Ledger(3)
        self.assertEqual(
            self.check_refused(ledger, BadEdit, ledger.run, ("claim", 0, 2, 1)).index, 0)

    def test_rejected(self):
        wrong = (
            ("drop", 9), ("drop", -1), ("drop", True), ("drop", None), ("claim", 0, 4, 1),
            ("claim", 0, 2, True), ("claim", [], {}, None), ("claim", 0, 1, 0))
        for kind in CLASSES:
            for edit in wrong:
                for index in range(4):
                    ledger = kind(4)
                    ledger.claim(0, 2, 1)
                    steps = [("claim", 2, 3, 3), ("claim", 1, 3, 3), ("drop", 1)]
                    edits = steps[:index] + [edit] + steps[index:]
                    error = self.check_refused(ledger, Rejected, ledger.run, edits)
                    self.assertEqual(error.index, index, (kind, edit))

    def test_thirty_claims_in_a_run(self):
        ledger = crowded(Ledger)
        ledger.drop(29)
        edits = [("claim", 0, 1, 1), ("claim", 0, 1, 1)]
        self.assertEqual(self.check_refused(ledger, Rejected, ledger.run, edits).index, 1)

    def test_on_step(self):
        for kind in CLASSES:
            ledger = kind(4)
            ledger.claim(1, 2, 1)
            told = []

            def on_step(*values):
                self.assertEqual(len(values), 1)
                self.assertIs(values[0], ledger)
                told.append((ledger.version, ledger.claims, ledger.edits(), len(ledger), str(ledger)))
                self.assertEqual(ledger.row, fulfil(4, ledger.claims))
                self.assertEqual(ledger.asked(0, 0), 0)
                self.assertEqual(ledger.claims_at(1), ((1, 2, 1),))
                self.assertEqual(len(list(ledger.walk())), ledger.version + 1)
                self.assertTrue(ledger == ledger.copy())
                return "not used"

            edits = [("claim", 0, 1, 1), ("drop", 0), ("claim", 2, 3, 3)]
            self.assertEqual(ledger.run(edits, on_step=on_step), 4)
            one, all_edits = ("claim", 1, 2, 1), (("claim", 1, 2, 1), *edits)
            self.assertEqual(told, [
                (2, ((1, 2, 1), (0, 1, 1)), (one, edits[0]), 2, "4 places, 2 claims, 2 edits"),
                (3, ((0, 1, 1),), all_edits[:3], 1, "4 places, 1 claims, 3 edits"),
                (4, ((0, 1, 1), (2, 3, 3)), all_edits, 2, "4 places, 2 claims, 4 edits")])

    def test_on_step_is_called_only_after_edits_that_are_done(self):
        ledger, told = Ledger(3), []
        with self.assertRaises(Rejected):
            ledger.run(
                [("claim", 0, 1, 1), ("drop", 7), ("claim", 0, 1, 1)],
                on_step=lambda now: told.append(now.version))
        self.assertEqual(told, [1])
        with self.assertRaises(BadEdit):
            ledger.run([("claim", 0, 1, 1), None], on_step=self.fail)

    def test_on_step_is_passed_by_keyword(self):
        ledger = Ledger(3)
        before = state(ledger)
        with self.assertRaises(TypeError):
            ledger.run([("claim", 0, 1, 1)], lambda now: None)
        self.assertEqual(state(ledger), before)

    def test_busy(self):
        for kind in CLASSES:
            ledger = kind(3)
            ledger.claim(0, 1, 1)
            calls = []

            def on_step(now):
                before = state(now)
                for call, values in (
                        (now.claim, (1, 2, 1)), (now.claim, (None, 9, [])), (now.claim, (0, 1, 0)),
                        (now.drop, (0,)), (now.drop, (None,)), (now.undo, ()), (now.run, ([],)),
                        (now.run, ([("drop", 0)],)), (now.run, (None,)), (now.run, ([None],))):
                    with self.assertRaises(Busy):
                        call(*values)
                    self.assertEqual(state(now), before)
                    calls.append(call)
                with self.assertRaises(Busy):
                    now.run([("drop", 0)], on_step=on_step)

            self.assertEqual(ledger.run([("claim", 1, 2, 2), ("drop", 0)], on_step=on_step), 3)
            self.assertEqual(len(calls), 20)
            # Afterwards it is not busy any more.
            self.assertEqual([ledger.undo(), ledger.run([]), ledger.drop(0)], [2, 2, 3])

    def test_busy_comes_before_too_many_edits(self):
        ledger = full(Ledger)
        ledger.undo()

        def on_step(now):
            self.assertEqual(now.version, 60)
            for call, values in ((now.claim, (0, 1, 0)), (now.drop, (0,)), (now.undo, ())):
                with self.assertRaises(Busy):
                    call(*values)

        self.assertEqual(ledger.run([("drop", 0)], on_step=on_step), 60)
        self.check_refused(ledger, TooManyEdits, ledger.drop, 0)

    def test_a_busy_that_propagates(self):
        for kind in CLASSES:
            ledger = kind(3)
            for name, values in (("undo", ()), ("claim", (0, 1, 1)), ("drop", (0,)), ("run", ([],))):
                self.check_refused(ledger, Busy, lambda: ledger.run(
                    [("claim", 0, 1, 1)], on_step=lambda now: getattr(now, name)(*values)))
            self.assertEqual(ledger.claim(0, 1, 1), 1)

    def test_an_exception_of_on_step(self):
        for kind in CLASSES:
            for error in (Stop("a"), Busy(), Rejected(7), NoIndex(3), Needless(), KeyError("k"),
                          KeyboardInterrupt(), StopIteration(), ValueError()):
                for at in (2, 3, 4):
                    ledger = kind(4)
                    ledger.claim(1, 2, 1)
                    before = state(ledger)

                    def on_step(now):
                        if now.version == at:
                            raise error

                    edits = [("claim", 0, 1, 1), ("claim", 2, 3, 3), ("drop", 0)]
                    with self.assertRaises(type(error)) as caught:
                        ledger.run(edits, on_step=on_step)
                    self.assertIs(caught.exception, error)
                    self.assertEqual(state(ledger), before)
                    # It is not busy any more.
                    self.assertEqual([ledger.drop(0), ledger.undo(), ledger.undo()], [2, 1, 0])

    def test_changes_of_the_list_within_on_step(self):
        ledger = Ledger(3)
        edits = [("claim", 0, 1, 1), ("claim", 1, 2, 1)]

        def on_step(now):
            edits.append(None)
            edits[0] = ("drop", 0)
            del edits[1]

        self.assertEqual(ledger.run(edits, on_step=on_step), 2)
        self.assertEqual(ledger.claims, ((0, 1, 1), (1, 2, 1)))
        edits[:] = []
        self.assertEqual(ledger.edits(), (("claim", 0, 1, 1), ("claim", 1, 2, 1)))

    def test_copies_within_on_step(self):
        for kind in CLASSES:
            ledger, copies = kind(4), []

            def on_step(now):
                now.window = (1, now.version)
                other = now.copy()
                self.assertIs(type(other), kind)
                self.assertEqual(state(other), state(now))
                # The copy is not busy.
                self.assertEqual(other.run([("claim", 0, 3, 0)] if now.version == 1 else []), 2)
                other.undo()
                copies.append(other)

            edits = [("claim", 1, 2, 1), ("claim", 2, 3, 2)]
            self.assertEqual(ledger.run(edits, on_step=on_step), 2)
            self.check_told(ledger, tuple(edits), ((1, 2, 1), (2, 3, 2)))
            for other in copies:
                self.assertEqual(other.edits(), tuple(edits[:1]))
            self.assertEqual([other.window for other in copies], [(1, 1), (1, 2)])

    def test_a_run_of_another_ledger_within_on_step(self):
        one, other = Ledger(3), Ledger(3)

        def inner(now):
            self.assertIs(now, other)
            with self.assertRaises(Busy):
                one.undo()

        def outer(now):
            self.assertEqual(other.run([("claim", 0, 1, 1)], on_step=inner), now.version)
            with self.assertRaises(Busy):
                one.undo()

        self.assertEqual(one.run([("claim", 0, 1, 0), ("claim", 1, 2, 1)], on_step=outer), 2)
        self.assertEqual(other.claims, ((0, 1, 1), (0, 1, 1)))


class QueryTest(LedgerTest):

    def test_example(self):
        ledger = Ledger(4)
        self.assertEqual(
            [ledger.claim(0, 2, 1), ledger.asked(1, 2), ledger.asked(0, 3), list(ledger.walk())],
            [1, 1, None, [(0, ()), (1, ((0, 2, 1),))]])

    def test_asked(self):
        for claims in ((), ((0, 2, 1),), ((0, 3, 2), (0, 1, 0)), ((0, 0, 0), (1, 3, 3))):
            ledger = Ledger(4)
            for claim in claims:
                ledger.claim(*claim)
            rows = [row for row in small_rows(4, 4) if fulfils(row, claims)]
            before = state(ledger)
            for window in windows(4):
                places = sorted({expected_place(row, *window) for row in rows})
                told = ledger.asked(*window)
                self.assertEqual(told, places[0] if len(places) == 1 else None)
            self.assertEqual(state(ledger), before)

    def test_asked_no_window(self):
        for kind in CLASSES:
            ledger = kind(4)
            ledger.claim(0, 2, 1)
            for value in NOT_INTEGERS + (-1, 4, 10 ** 39, nested_tuples(19)):
                for first, last in ((value, 3), (0, value), (value, value)):
                    error = self.check_refused(ledger, NoWindow, ledger.asked, first, last)
                    self.assertIs(type(error.value), tuple)
                    self.assertIs(error.value[0], first)
                    self.assertIs(error.value[1], last)
            self.assertEqual(self.check_refused(ledger, NoWindow, ledger.asked, 2, 1).value, (2, 1))

    def test_claims_at(self):
        ledger = Ledger(4)
        ledger.claim(0, 2, 1)
        ledger.claim(0, 3, 3)
        ledger.drop(0)
        expected = [(), ((0, 2, 1),), ((0, 2, 1), (0, 3, 3)), ((0, 3, 3),)]
        self.assertEqual([ledger.claims_at(version) for version in range(4)], expected)
        self.assertEqual(list(ledger.walk()), list(enumerate(expected)))
        ledger.undo()
        self.assertEqual([ledger.claims_at(version) for version in range(3)], expected[:3])
        for value in NOT_INTEGERS + (-1, -2, 3, 4, 10 ** 39, nested_tuples(19)):
            error = self.check_refused(ledger, NoVersion, ledger.claims_at, value)
            self.assertIs(error.value, value)

    def test_edits(self):
        ledger = Ledger(4)
        self.assertEqual(ledger.edits(), ())
        ledger.claim(0, 2, 1)
        ledger.run([("drop", 0), ("claim", 0, 3, 3)])
        edits = (("claim", 0, 2, 1), ("drop", 0), ("claim", 0, 3, 3))
        self.assertEqual(ledger.edits(), edits)
        for edit in ledger.edits():
            self.assertIs(Ledger.is_edit(edit), True)
        ledger.undo()
        self.assertEqual(ledger.edits(), edits[:2])
        again = Ledger(4)
        again.run(edits)
        self.assertEqual(again.edits(), edits)

    def test_walk(self):
        ledger = Ledger(4)
        for claim in ((0, 2, 1), (0, 3, 3), (1, 2, 1)):
            ledger.claim(*claim)
        ledger.drop(1)
        whole = list(ledger.walk())
        self.assertEqual(len(whole), 5)
        self.assertTrue(inspect.isgenerator(ledger.walk()))
        for many in range(6):
            self.assertEqual(list(itertools.islice(ledger.walk(), many)), whole[:many])
            self.assertEqual(list(ledger.walk()), whole)
        self.assertEqual(list(zip(ledger.walk(), ledger.walk())), [(item, item) for item in whole])
        for item in whole:
            self.assertEqual([type(part) for part in (item, *item)], [tuple, int, tuple])


class CopyTest(LedgerTest):

    def test_example(self):
        one, other = Ledger(3), Ledger(3)
        self.assertEqual(
            [one.claim(0, 2, 1), other.claim(0, 2, 1), other.claim(1, 2, 1), one == other, len(other),
             one == Ledger(3)],
            [1, 1, 2, True, 2, False])

    def test_copies_of_each_class(self):
        for kind in CLASSES:
            ledger = kind(4)
            ledger.claim(0, 1, 1)
            ledger.claim(2, 3, 3)
            ledger.drop(0)
            ledger.window = (1, 2)
            before = state(ledger)
            other = ledger.copy()
            self.assertIs(type(other), kind)
            self.assertEqual(state(other), before)
            self.assertTrue(other == ledger)
            # They are independent afterwards.
            self.assertEqual([other.undo(), other.undo()], [2, 1])
            other.look((0, 0))
            self.assertEqual(state(ledger), before)
            told = state(other)
            ledger.claim(0, 3, 0)
            ledger.window = (2, 3)
            self.assertEqual(state(other), told)
            self.assertEqual([other.undo(), other.version], [0, 0])
            self.check_refused(other, NothingToUndo, other.undo)
            self.assertEqual(ledger.version, 4)

    def test_a_copy_of_a_copy(self):
        for kind in CLASSES:
            ledger = kind.read("4: 0-1>1 2-3>3")
            self.assertEqual(state(ledger.copy().copy()), state(ledger))
            self.assertIs(type(ledger.copy().copy()), kind)

    def test_len_and_str(self):
        for kind in CLASSES:
            ledger = kind(1)
            self.assertEqual((len(ledger), str(ledger)), (0, "1 places, 0 claims, 0 edits"))
            ledger = kind(12)
            ledger.claim(0, 11, 3)
            self.assertEqual((len(ledger), str(ledger)), (1, "12 places, 1 claims, 1 edits"))
            ledger.drop(0)
            self.assertEqual((len(ledger), str(ledger)), (0, "12 places, 0 claims, 2 edits"))
            self.assertEqual(str(full(kind)), "4 places, 0 claims, 60 edits")

    def test_equal_exactly_if_the_same_rows_fulfil_the_claims(self):
        rows = small_rows(3, 3)
        ledgers = []
        for many in range(3):
            for claims in itertools.permutations(all_claims(3), many):
                if fulfil(3, claims) is not None:
                    ledger = Ledger(3)
                    for claim in claims:
                        ledger.claim(*claim)
                    ledgers.append((ledger, [fulfils(row, claims) for row in rows]))
        for (one, told), (other, also) in itertools.product(ledgers[::2], ledgers):
            self.assertIs(one == other, told == also)
            self.assertIs(one != other, told != also)

    def test_ledgers_of_four_places(self):
        rows = small_rows(4, 4)
        ledgers = []
        claims = all_claims(4)
        for first, second, third in list(itertools.combinations(claims, 3))[::7]:
            if fulfil(4, (first, second, third)) is not None:
                ledger = Ledger(4)
                for claim in (first, second, third):
                    ledger.claim(*claim)
                ledgers.append((ledger, [fulfils(row, ledger.claims) for row in rows]))
        self.assertGreater(len(ledgers), 50)
        for (one, told), (other, also) in itertools.product(ledgers, repeat=2):
            self.assertIs(one == other, told == also)

    def test_different_classes(self):
        ledgers = [kind.read("4: 0-1>1 2-3>3") for kind in CLASSES]
        others = [kind.read("4: 2-3>3 0-1>1") for kind in CLASSES]
        more = [kind.read("4: 2-3>3") for kind in CLASSES]
        for one, other in itertools.product(ledgers + others, repeat=2):
            self.assertIs(one == other, True)
            self.assertIs(one != other, False)
        for one, other in itertools.product(ledgers, more):
            self.assertIs(one == other, False)
            self.assertIs(other == one, False)

    def test_sizes_windows_edits_and_logs(self):
        self.assertIs(Ledger(3) == Ledger(4), False)
        self.assertIs(Ledger(3) == Ledger(3), True)
        one, other = LoggedLedger(3), LoggedLedger(3)
        one.claim(0, 1, 1)
        one.drop(0)
        one.look((1, 1))
        self.assertIs(one == other, True)

    def test_claims_that_follow(self):
        one, other = Ledger.read("4: 0-3>1"), Ledger.read("4: 0-3>1 0-0>0 1-3>1 0-1>1 0-3>1")
        self.assertIs(one == other, True)
        other.drop(0)
        self.assertIs(one == other, True)
        other.run([("drop", 3), ("drop", 1)])
        self.assertIs(one == other, False)

    def test_values_that_are_no_ledgers(self):
        for kind in CLASSES:
            ledger = kind(3)
            for value in NOT_INTEGERS + NOT_TUPLES + (3, "3 places, 0 claims, 0 edits", ((),), object()):
                self.assertIs(ledger == value, False)
                self.assertIs(value == ledger, False)
                self.assertIs(ledger != value, True)

    def test_comparing_changes_nothing(self):
        one, other = LoggedLedger.read("3: 0-2>1"), Ledger.read("3: 0-1>0")
        before = (state(one), state(other))
        self.assertIs(one == other, False)
        self.assertEqual((state(one), state(other)), before)


class ThriftyTest(LedgerTest):

    def test_example(self):
        ledger = ThriftyLedger(3)
        error = self.check_refused(
            ledger, Rejected, ledger.run, [("claim", 0, 2, 1), ("claim", 1, 2, 1)])
        self.assertEqual(error.index, 1)

    def test_all_pairs_of_claims(self):
        for kind in THRIFTY:
            for one, other in itertools.product(all_claims(3), repeat=2):
                ledger = kind(3)
                if one[0] == one[1]:
                    self.check_refused(ledger, Needless, ledger.claim, *one)
                    continue
                self.assertEqual(ledger.claim(*one), 1)
                rows = [row for row in small_rows(3, 3) if fulfils(row, (one,))]
                left = [row for row in rows if fulfils(row, (other,))]
                if not left:
                    self.check_refused(ledger, Contradiction, ledger.claim, *other)
                elif len(left) == len(rows):
                    self.check_refused(ledger, Needless, ledger.claim, *other)
                    error = self.check_refused(ledger, Rejected, ledger.run, [("claim", *other)])
                    self.assertEqual(error.index, 0)
                else:
                    self.assertEqual(ledger.claim(*other), 2)

    def test_its_own_errors_come_first(self):
        for kind in THRIFTY:
            ledger = full(kind)
            self.check_refused(ledger, TooManyEdits, ledger.claim, 0, 0, 0)
            ledger = crowded(kind)
            self.check_refused(ledger, TooManyClaims, ledger.claim, 0, 0, 0)
            self.check_refused(ledger, NoClaim, ledger.claim, 0, 0, True)
            ledger = kind(3)
            with self.assertRaises(Busy):
                ledger.run([("claim", 0, 1, 1)], on_step=lambda now: now.claim(0, 0, 0))

    def test_the_current_claims_count(self):
        for kind in THRIFTY:
            ledger = kind(3)
            ledger.claim(0, 2, 1)
            self.check_refused(ledger, Needless, ledger.claim, 0, 1, 1)
            ledger.drop(0)
            self.assertEqual(ledger.claim(0, 1, 1), 3)
            self.assertEqual(ledger.claim(0, 2, 1), 4)
            # A claim that became needless by a later one stays, and so it does after undo.
            self.assertEqual(ledger.claims, ((0, 1, 1), (0, 2, 1)))
            self.assertEqual([ledger.drop(0), ledger.undo()], [5, 4])
            self.assertEqual(ledger.claims, ((0, 1, 1), (0, 2, 1)))

    def test_within_run(self):
        for kind in THRIFTY:
            ledger = kind(3)
            edits = [("claim", 0, 2, 1), ("drop", 0), ("claim", 1, 2, 1), ("claim", 0, 2, 1)]
            self.assertEqual(ledger.run(edits), 4)
            error = self.check_refused(ledger, Rejected, ledger.run, [("drop", 0), ("claim", 1, 2, 1)])
            self.assertEqual(error.index, 1)

    def test_other_ledgers_take_claims_that_follow(self):
        for kind in (Ledger, LoggedLedger):
            ledger = kind(3)
            self.assertEqual([ledger.claim(0, 2, 1), ledger.claim(0, 2, 1), ledger.claim(0, 0, 0)], [1, 2, 3])


class LoggedTest(LedgerTest):

    def test_examples(self):
        ledger = LoggedLedger(3)
        self.assertEqual(
            [ledger.run([("claim", 0, 2, 1), ("claim", 0, 1, 1)]), ledger.undo(), ledger.log],
            [2, 1, (("run", 2), ("undo", 1))])
        ledger = LoggedThriftyLedger.read("3: 0-2>1")
        self.assertEqual(
            [isinstance(ledger, ThriftyLedger), isinstance(ledger, LoggedLedger), ledger.log],
            [True, True, (("claim", 1),)])

    def test_rows_of_the_log(self):
        for kind in LOGGED:
            ledger = kind(4)
            self.assertEqual(ledger.log, ())
            ledger.claim(0, 1, 1)
            ledger.claim(2, 3, 2)
            ledger.drop(0)
            ledger.undo()
            ledger.run([("drop", 1), ("claim", 0, 3, 3)])
            ledger.run([])
            ledger.look((0, 1))
            ledger.window = (1, 2)
            expected = (
                ("claim", 1), ("claim", 2), ("drop", 3), ("undo", 2), ("run", 4), ("run", 4))
            self.assertEqual(ledger.log, expected)
            self.assertIs(type(ledger.log), tuple)
            for row in ledger.log:
                self.assertEqual([type(part) for part in (row, *row)], [tuple, str, int])

    def test_calls_that_raise_errors_add_nothing(self):
        for kind in LOGGED:
            ledger = kind(3)
            ledger.claim(0, 2, 1)
            log = ledger.log
            for error, call, values in (
                    (NoClaim, ledger.claim, (0, 3, 1)), (Contradiction, ledger.claim, (0, 1, 0)),
                    (NoIndex, ledger.drop, (1,)), (BadEdits, ledger.run, (None,)),
                    (BadEdit, ledger.run, ([None],)), (NoWindow, ledger.look, ((1, 0),)),
                    (Rejected, ledger.run, ([("drop", 0), ("drop", 0)],))):
                self.check_refused(ledger, error, call, *values)
            self.assertEqual(ledger.log, log)
            ledger.undo()
            self.check_refused(ledger, NothingToUndo, ledger.undo)
            self.assertEqual(ledger.log, (("claim", 1), ("undo", 0)))

    def test_claims_that_follow_add_nothing(self):
        ledger = LoggedThriftyLedger(3)
        ledger.claim(0, 2, 1)
        self.check_refused(ledger, Needless, ledger.claim, 0, 1, 1)
        self.assertEqual(ledger.log, (("claim", 1),))

    def test_during_on_step(self):
        for kind in LOGGED:
            ledger, told = kind(3), []
            ledger.claim(0, 1, 1)

            def on_step(now):
                told.append(now.log)
                now.look((0, 1))
                with self.assertRaises(Busy):
                    now.undo()
                told.append(now.log)

            ledger.run([("drop", 0), ("claim", 0, 2, 2)], on_step=on_step)
            self.assertEqual(told, [(("claim", 1),)] * 4)
            self.assertEqual(ledger.log, (("claim", 1), ("run", 3)))
            ledger.undo()
            self.assertEqual(ledger.log, (("claim", 1), ("run", 3), ("undo", 2)))

    def test_an_exception_of_on_step_adds_nothing(self):
        for kind in LOGGED:
            ledger = kind(3)
            ledger.claim(0, 1, 1)

            def on_step(now):
                raise Stop()

            with self.assertRaises(Stop):
                ledger.run([("drop", 0)], on_step=on_step)
            self.assertEqual(ledger.log, (("claim", 1),))
            ledger.drop(0)
            self.assertEqual(ledger.log, (("claim", 1), ("drop", 2)))

    def test_of_a_copy(self):
        for kind in LOGGED:
            ledger = kind(3)
            ledger.claim(0, 1, 1)
            ledger.undo()
            other = ledger.copy()
            self.assertEqual(other.log, (("claim", 1), ("undo", 0)))
            other.claim(0, 1, 0)
            self.assertEqual(other.log, (("claim", 1), ("undo", 0), ("claim", 1)))
            self.assertEqual(ledger.log, (("claim", 1), ("undo", 0)))

    def test_of_a_copy_within_on_step(self):
        for kind in LOGGED:
            ledger, copies = kind(3), []
            ledger.claim(0, 1, 1)
            ledger.run([("drop", 0), ("claim", 0, 2, 2)], on_step=lambda now: copies.append(now.copy()))
            self.assertEqual([other.log for other in copies], [(("claim", 1),)] * 2)
            copies[0].undo()
            self.assertEqual(copies[0].log, (("claim", 1), ("undo", 1)))

    def test_of_a_ledger_that_read_returned(self):
        for kind in LOGGED:
            self.assertEqual(kind.read("3:").log, ())
            ledger = kind.read("4: 0-1>1 2-3>3 0-3>1")
            self.assertEqual(ledger.log, (("claim", 1), ("claim", 2), ("claim", 3)))
            ledger.undo()
            self.assertEqual(ledger.log[3:], (("undo", 2),))

    def test_other_ledgers_have_no_log(self):
        for kind in (Ledger, ThriftyLedger):
            with self.assertRaises(AttributeError):
                kind(3).log


class Model:
    """A ledger as the document tells it, with rows instead of gaps."""

    def __init__(self, kind, n):
        self.kind, self.n = kind, n
        self.rows = small_rows(n, n)
        self.stages, self.edits, self.log = [()], [], []

    def claim(self, first, last, place):
        claims = self.stages[-1]
        if len(self.edits) == 60:
            return "TooManyEdits"
        if not 0 <= first <= place <= last < self.n:
            return "NoClaim"
        if len(claims) == 30:
            return "TooManyClaims"
        claim = (first, last, place)
        before = [row for row in self.rows if fulfils(row, claims)]
        behind = [row for row in before if fulfils(row, (claim,))]
        if not behind:
            return "Contradiction"
        if self.kind in THRIFTY and before == behind:
            return "Needless"
        self.stages.append(claims + (claim,))
        self.edits.append(("claim", *claim))
        return len(self.edits)

    def drop(self, index):
        claims = self.stages[-1]
        if len(self.edits) == 60:
            return "TooManyEdits"
        if not 0 <= index < len(claims):
            return "NoIndex"
        self.stages.append(claims[:index] + claims[index + 1:])
        self.edits.append(("drop", index))
        return len(self.edits)

    def undo(self):
        if not self.edits:
            return "NothingToUndo"
        self.stages.pop()
        self.edits.pop()
        return len(self.edits)

    def run(self, edits):
        kept = (list(self.stages), list(self.edits))
        for word, *values in edits:
            if isinstance(getattr(self, word)(*values), str):
                self.stages, self.edits = kept
                return "Rejected"
        return len(self.edits)

    def call(self, name, *values):
        told = getattr(self, name)(*values)
        if not isinstance(told, str):
            self.log.append((name, told))
        return told


class ModelTest(unittest.TestCase):

    def edit(self, source, n):
        if source.randrange(3) == 0:
            return ("drop", source.randrange(-1, 6))
        first, place, last = sorted(source.randrange(-1, n + 1) for _ in range(3))
        return ("claim", first, last, place)

    def step(self, source, n):
        """The name of a method and its arguments, most of them right."""
        name = source.choice(["edit"] * 7 + ["undo", "run"])
        if name == "edit":
            word, *values = self.edit(source, n)
            return word, values
        if name == "run":
            return name, [[self.edit(source, n) for _ in range(source.randrange(5))]]
        return name, []

    def test_long_lives(self):
        for seed, kind in itertools.product(range(12), CLASSES):
            source = random.Random(seed)
            n = 3 + seed % 2
            ledger, model = kind(n), Model(kind, n)
            for _ in range(150):
                name, values = self.step(source, n)
                try:
                    told = getattr(ledger, name)(*values)
                except (ValueError, LookupError) as error:
                    told = type(error).__name__
                self.assertEqual(told, model.call(name, *values), (seed, kind, name, values))
                self.assertEqual(ledger.claims, model.stages[-1])
                self.assertEqual(ledger.edits(), tuple(model.edits))
                self.assertEqual(list(ledger.walk()), list(enumerate(model.stages)))
                if kind in LOGGED:
                    self.assertEqual(ledger.log, tuple(model.log))


if __name__ == "__main__":
    unittest.main()
