"""Tests of leastplaces.consoles: points [3] and [16]."""

import itertools
import unittest

from leastplaces.answers import count_fulfilling, needless
from leastplaces.consoles import Console
from leastplaces.ledgers import Ledger, LoggedLedger, LoggedThriftyLedger, ThriftyLedger
from leastplaces.texts import claims_text, places_text, row_text
from samples import NOT_TUPLES, expected_place, fulfils, nested_tuples, small_rows, windows

CLASSES = (Ledger, ThriftyLedger, LoggedLedger, LoggedThriftyLedger)
UNKNOWN = "unknown command"

NOT_TEXTS = tuple(value for value in NOT_TUPLES if not isinstance(value, str)) + (
    (), ("row",), ["row"], {"row": "row"}, nested_tuples(19), b"row")

NUMBERS = {
    "claim": 3, "drop": 1, "undo": 0, "claims": 0, "row": 0, "look": 2, "possible": 0, "ask": 2,
    "count": 0, "needless": 0}


class ConsoleTest(unittest.TestCase):

    def check(self, console, line, answer):
        told = console.execute(line)
        self.assertIs(type(told), str)
        self.assertEqual(told, answer, line)
        spoken = line if isinstance(line, str) else None
        self.assertEqual(console.history[-1], (spoken, answer))

    def check_unknown(self, console, ledger, line):
        before = (ledger.edits(), ledger.claims, ledger.window, repr(line))
        self.check(console, line, UNKNOWN)
        self.assertEqual((ledger.edits(), ledger.claims, ledger.window, repr(line)), before)

    def test_examples(self):
        console = Console(Ledger(4))
        self.assertEqual(
            [console.execute("claim 0 2 1"), console.execute("claim 0 1 0"), console.execute("look 0 3"),
             console.execute("count"), console.execute("ask 2 1")],
            ["ok 1", "error Contradiction", "1 3", "3", "error NoWindow"])
        console = Console(Ledger(1))
        self.assertEqual(
            [console.execute("row"), console.execute(5), console.history],
            ["0", UNKNOWN, (("row", "0"), (None, UNKNOWN))])

    def test_every_command(self):
        for kind in CLASSES:
            ledger = kind(4)
            console = Console(ledger)
            for line, answer in (
                    ("claims", "4:"), ("row", "0 0 0 0"), ("possible", "0 1 2 3"), ("count", "14"),
                    ("needless", "none"), ("ask 0 0", "0"), ("ask 0 1", "none"),
                    ("undo", "error NothingToUndo"), ("claim 1 2 1", "ok 1"), ("claim 0 2 1", "ok 2"),
                    ("claims", "4: 1-2>1 0-2>1"), ("needless", "0"), ("row", "1 0 0 0"),
                    ("count", "3"), ("possible", "1 3"), ("ask 0 3", "none"), ("ask 1 2", "1"),
                    ("look 0 2", "1"), ("possible", "1"), ("look 2 3", "2 3"), ("drop 0", "ok 3"),
                    ("drop 1", "error NoIndex"), ("claims", "4: 0-2>1"), ("undo", "ok 2"),
                    ("claims", "4: 1-2>1 0-2>1"), ("look 3 2", "error NoWindow"),
                    ("possible", "2 3"), ("claim 0 3 4", "error NoClaim"),
                    ("claim 0 1 0", "error Contradiction"), ("undo", "ok 1"), ("undo", "ok 0"),
                    ("row", "0 0 0 0"), ("undo", "error NothingToUndo")):
                self.check(console, line, answer)
            self.assertEqual(ledger.window, (2, 3))
            self.assertEqual(ledger.claims, ())

    def test_it_works_on_this_very_ledger(self):
        ledger = LoggedLedger(4)
        console = Console(ledger)
        console.execute("claim 0 2 1")
        console.execute("look 1 2")
        self.assertEqual((ledger.claims, ledger.window), (((0, 2, 1),), (1, 2)))
        self.assertEqual(ledger.log, (("claim", 1),))
        ledger.claim(0, 3, 3)
        self.check(console, "claims", "4: 0-2>1 0-3>3")
        self.check(console, "undo", "ok 1")
        self.assertEqual(ledger.version, 1)
        self.assertEqual(ledger.log, (("claim", 1), ("claim", 2), ("undo", 1)))

    def test_answers_for_many_ledgers(self):
        for text in ("1:", "3: 0-2>1 1-2>1", "4: 0-1>0 2-3>3", "4: 0-3>2 0-3>2 0-1>1", "5: 1-3>2"):
            ledger = Ledger.read(text)
            console = Console(ledger)
            n, claims = ledger.size, ledger.claims
            rows = [row for row in small_rows(n, n) if fulfils(row, claims)]
            self.check(console, "claims", text)
            self.check(console, "claims", claims_text(n, claims))
            self.check(console, "row", row_text(ledger.row))
            self.check(console, "count", str(count_fulfilling(n, claims)))
            self.check(console, "needless", places_text(needless(n, claims)))
            for first, last in windows(n):
                places = sorted({expected_place(row, first, last) for row in rows})
                told = " ".join(str(place) for place in places)
                self.check(console, f"look {first} {last}", told)
                self.check(console, "possible", told)
                self.check(console, f"ask {first} {last}", told if len(places) == 1 else "none")

    def test_great_counts(self):
        console = Console(Ledger(12))
        self.check(console, "count", "208012")
        self.check(console, "row", "0 0 0 0 0 0 0 0 0 0 0 0")
        self.check(console, "claim 0 11 11", "ok 1")
        self.check(console, "count", "58786")
        self.check(console, "look 9 11", "11")
        self.check(console, "look 9 10", "9 10")

    def test_needless(self):
        console = Console(Ledger(3))
        for line in ("claim 0 2 1", "claim 1 2 1", "claim 1 2 1"):
            console.execute(line)
        self.check(console, "needless", "1 2")

    def test_errors(self):
        for kind in CLASSES:
            ledger = kind(3)
            console = Console(ledger)
            for line in ("drop 0", "drop 5", "drop 999"):
                self.check(console, line, "error NoIndex")
            for line in ("claim 0 3 0", "claim 2 1 0", "claim 999 0 0", "claim 0 1 2", "claim 3 3 3"):
                self.check(console, line, "error NoClaim")
            for line in ("look 1 0", "look 0 3", "look 999 999", "ask 1 0", "ask 0 3", "ask 3 3"):
                self.check(console, line, "error NoWindow")
            self.check(console, "undo", "error NothingToUndo")
            self.assertEqual((ledger.version, ledger.window), (0, (0, 2)))

    def test_needless_claims(self):
        for kind in CLASSES:
            console = Console(kind(3))
            thrifty = kind in (ThriftyLedger, LoggedThriftyLedger)
            self.check(console, "claim 0 2 1", "ok 1")
            self.check(console, "claim 0 1 1", "error Needless" if thrifty else "ok 2")
            self.check(console, "claim 0 0 0", "error Needless" if thrifty else "ok 3")

    def test_too_many_claims_and_edits(self):
        console = Console(Ledger(3))
        for version in range(1, 31):
            self.check(console, "claim 0 2 1", f"ok {version}")
        self.check(console, "claim 0 2 1", "error TooManyClaims")
        self.check(console, "claim 0 3 1", "error NoClaim")
        for version in range(31, 61):
            self.check(console, "drop 0", f"ok {version}")
        self.check(console, "claim 0 3 1", "error TooManyEdits")
        self.check(console, "drop 0", "error TooManyEdits")
        self.check(console, "undo", "ok 59")

    def test_too_few_and_too_many_words(self):
        ledger = Ledger(4)
        ledger.claim(0, 2, 1)
        console = Console(ledger)
        for word, many in NUMBERS.items():
            for numbers in range(6):
                if numbers != many:
                    self.check_unknown(console, ledger, " ".join([word] + ["0"] * numbers))

    def test_spaces(self):
        ledger = Ledger(4)
        ledger.claim(0, 2, 1)
        console = Console(ledger)
        for word, many in NUMBERS.items():
            line = " ".join([word] + ["0"] * many)
            for other in (" " + line, line + " ", line + "\n", "\n" + line, line + "  "):
                self.check_unknown(console, ledger, other)
            if many:
                self.check_unknown(console, ledger, line.replace(" ", "  "))
                self.check_unknown(console, ledger, line.replace(" ", "  ", 1))
                self.check_unknown(console, ledger, line.replace(" ", "\n"))
                self.check_unknown(console, ledger, line.replace(" ", ""))
        for line in ("", " ", "  ", "\n"):
            self.check_unknown(console, ledger, line)

    def test_numbers(self):
        ledger = Ledger(4)
        ledger.claim(0, 2, 1)
        console = Console(ledger)
        wrong = (
            "", "-", "-0", "-1", "+0", "+1", "00", "01", "001", "0001", "1000", "9999", "0000", "1.0", "a",
            "0a", "x0", "1_0", "1\n", "True", "None", "0,", "1e1", "9" * 1000)
        for word in wrong:
            for line in (
                    f"drop {word}", f"claim {word} 2 1", f"claim 0 {word} 1", f"claim 0 2 {word}",
                    f"look {word} 3", f"look 0 {word}", f"ask {word} 3", f"ask 0 {word}"):
                self.check_unknown(console, ledger, line)
        # Numbers of up to three digits are numbers, also if they are too great.
        for number in ("4", "10", "99", "100", "999"):
            self.check(console, f"drop {number}", "error NoIndex")
            self.check(console, f"claim 0 {number} 0", "error NoClaim")
            self.check(console, f"ask 0 {number}", "error NoWindow")
            self.check(console, f"look 0 {number}", "error NoWindow")

    def test_other_lines(self):
        ledger = Ledger(4)
        ledger.claim(0, 2, 1)
        console = Console(ledger)
        for line in (
                "Claim 0 2 1", "ROW", "rows", "ro", "run", "read 3:", "copy", "edits", "walk", "log", "window",
                "history", "size", "version", "help", "0", "claim0 2 1", "row;", "row row", "undo undo",
                "claim 0-2>1", "__init__", "a" * 2000, "ask none 0", "count 0", "~"):
            self.check_unknown(console, ledger, line)

    def test_values_that_are_no_texts(self):
        ledger = Ledger(4)
        console = Console(ledger)
        for value in NOT_TEXTS:
            self.check_unknown(console, ledger, value)

    def test_history(self):
        console = Console(Ledger(3))
        self.assertEqual(console.history, ())
        expected = []
        lines = itertools.cycle(["row", "claim 0 2 1", None, "undo", "x", 7, "look 2 1", ["row"]])
        for line in itertools.islice(lines, 45):
            answer = console.execute(line)
            expected.append((line if isinstance(line, str) else None, answer))
            self.assertEqual(console.history, tuple(expected[-20:]))
            self.assertIs(type(console.history), tuple)
            self.assertTrue(all(type(pair) is tuple for pair in console.history))
        self.assertEqual(len(console.history), 20)

    def test_twenty_and_twenty_one_lines(self):
        console = Console(Ledger(3))
        for number in range(20):
            console.execute(f"drop {number}")
        first = tuple((f"drop {number}", "error NoIndex") for number in range(20))
        self.assertEqual(console.history, first)
        console.execute("row")
        self.assertEqual(console.history, first[1:] + (("row", "0 0 0"),))

    def test_a_history_that_was_taken_stays(self):
        console = Console(Ledger(3))
        console.execute("row")
        taken = console.history
        console.execute("count")
        self.assertEqual(taken, (("row", "0 0 0"),))
        with self.assertRaises(AttributeError):
            console.history = ()
        self.assertEqual(len(console.history), 2)

    def test_two_consoles_on_one_ledger(self):
        ledger = Ledger(3)
        one, other = Console(ledger), Console(ledger)
        self.check(one, "claim 0 2 1", "ok 1")
        self.check(other, "claims", "3: 0-2>1")
        self.check(other, "look 0 1", "1")
        self.check(one, "possible", "1")
        self.check(other, "undo", "ok 0")
        self.check(one, "undo", "error NothingToUndo")
        self.assertEqual(
            one.history,
            (("claim 0 2 1", "ok 1"), ("possible", "1"), ("undo", "error NothingToUndo")))
        self.assertEqual(
            other.history, (("claims", "3: 0-2>1"), ("look 0 1", "1"), ("undo", "ok 0")))

    def test_commands_within_on_step(self):
        for kind in CLASSES:
            ledger = kind(4)
            console = Console(ledger)

            def on_step(now):
                for line in ("claim 0 1 0", "claim 9 9 9", "drop 0", "drop 9", "undo"):
                    self.check(console, line, "error Busy")
                self.check(console, "claims", claims_text(4, now.claims))
                self.check(console, "row", row_text(now.row))
                self.check(console, "look 1 2", "1")
                self.check(console, "possible", "1")
                self.check(console, "ask 1 2", "1")
                self.check(console, "ask 2 1", "error NoWindow")
                self.check(console, "count", str(count_fulfilling(4, now.claims)))
                self.check(console, "needless", places_text(needless(4, now.claims)))

            self.assertEqual(ledger.run([("claim", 0, 2, 1), ("claim", 2, 3, 3)], on_step=on_step), 2)
            self.assertEqual(ledger.window, (1, 2))
            self.assertEqual(len(console.history), 20)
            self.check(console, "undo", "ok 1")

    def test_lines_of_a_run_that_fails_stay_in_the_history(self):
        ledger = Ledger(3)
        console = Console(ledger)
        with self.assertRaises(ValueError):
            ledger.run(
                [("claim", 0, 2, 1), ("claim", 0, 1, 0)], on_step=lambda now: console.execute("look 0 1"))
        self.assertEqual(console.history, (("look 0 1", "1"),))
        self.assertEqual((ledger.window, ledger.claims), ((0, 2), ()))

    def test_equal_commands_tell_the_same(self):
        console = Console(Ledger.read("4: 0-2>1 1-2>1"))
        for line in ("claims", "row", "possible", "ask 0 3", "ask 0 2", "count", "needless", "look 0 3"):
            answer = console.execute(line)
            self.check(console, line, answer)

    def test_methods_stand_in_the_class_itself(self):
        for name in ("__init__", "execute", "history"):
            self.assertIn(name, vars(Console))


if __name__ == "__main__":
    unittest.main()
