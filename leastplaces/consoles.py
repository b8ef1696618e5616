"""A console: a ledger that is told what to do by lines of words."""

from leastplaces.answers import count_fulfilling, needless
from leastplaces.errors import (
    Busy, Contradiction, Needless, NoClaim, NoIndex, NothingToUndo, NoWindow, TooManyClaims,
    TooManyEdits)
from leastplaces.texts import claims_text, number_of, places_text, row_text

UNKNOWN = "unknown command"
MOST_DIGITS = 3
MOST_PAIRS = 20


def tell_claim(ledger, numbers):
    """Make a claim."""
    first, last, place = numbers
    return f"ok {ledger.claim(first, last, place)}"


def tell_drop(ledger, numbers):
    """Drop the claim with this index."""
    return f"ok {ledger.drop(numbers[0])}"


def tell_undo(ledger, numbers):
    """Undo the last edit."""
    return f"ok {ledger.undo()}"


def tell_claims(ledger, numbers):
    """The text of the claims."""
    return claims_text(ledger.size, ledger.claims)


def tell_row(ledger, numbers):
    """The text of the row."""
    return row_text(ledger.row)


def tell_look(ledger, numbers):
    """Look at another window."""
    return places_text(ledger.look((numbers[0], numbers[1])))


def tell_possible(ledger, numbers):
    """The text of the possible places."""
    return places_text(ledger.possible)


def tell_ask(ledger, numbers):
    """The only possible place of a window."""
    place = ledger.asked(numbers[0], numbers[1])
    return "none" if place is None else str(place)


def tell_count(ledger, numbers):
    """The number of shapes that fulfil the claims."""
    return str(count_fulfilling(ledger.size, ledger.claims))


def tell_needless(ledger, numbers):
    """The indexes of the claims that follow from the others."""
    return places_text(needless(ledger.size, ledger.claims))


# For each command how many numbers stand behind its word, and what it does.
NUMBERS = {
    "claim": 3, "drop": 1, "undo": 0, "claims": 0, "row": 0, "look": 2, "possible": 0, "ask": 2,
    "count": 0, "needless": 0,
}
ACTIONS = {
    "claim": tell_claim, "drop": tell_drop, "undo": tell_undo, "claims": tell_claims,
    "row": tell_row, "look": tell_look, "possible": tell_possible, "ask": tell_ask,
    "count": tell_count, "needless": tell_needless,
}


def answer_of(ledger, word, numbers):
    """The answer to a command, also if the ledger raises an error."""
    action = ACTIONS[word]
    # Each error is caught by itself, because its answer is its name.
    try:
        return action(ledger, numbers)
    except Busy:
        return "error Busy"
    except TooManyEdits:
        return "error TooManyEdits"
    except NoClaim:
        return "error NoClaim"
    except TooManyClaims:
        return "error TooManyClaims"
    except Contradiction:
        return "error Contradiction"
    except Needless:
        return "error Needless"
    except NoIndex:
        return "error NoIndex"
    except NothingToUndo:
        return "error NothingToUndo"
    except NoWindow:
        return "error NoWindow"


def answer_line(ledger, line):
    """The answer to a text."""
    word, *rest = line.split(" ")
    numbers = [number_of(part, MOST_DIGITS) for part in rest]
    if word not in NUMBERS or len(numbers) != NUMBERS[word] or None in numbers:
        return UNKNOWN
    return answer_of(ledger, word, numbers)


class Console:
    """A console that works on a ledger and remembers its last lines."""

    def __init__(self, ledger):
        self.ledger = ledger
        self.pairs = ()

    def execute(self, line):
        """Do the command of a line and return the answer."""
        spoken = line if isinstance(line, str) else None
        answer = UNKNOWN if spoken is None else answer_line(self.ledger, spoken)
        self.pairs = (self.pairs + ((spoken, answer),))[-MOST_PAIRS:]
        return answer

    @property
    def history(self):
        """The last pairs (line, answer), the oldest one first."""
        return self.pairs
