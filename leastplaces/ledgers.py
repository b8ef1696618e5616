"""Ledgers: claims that are made, dropped and undone."""

from leastplaces.answers import follows, places_left, possible_places, without
from leastplaces.bounds import BATCH, MAX_CLAIMS, MAX_EDITS, MAX_PLACES
from leastplaces.claims import all_gaps, find_ring, fulfil, is_claim
from leastplaces.errors import (
    BadEdit, BadEdits, BadSize, Busy, Contradiction, LeastError, Needless, NoClaim, NoIndex,
    NothingToUndo, NoVersion, NoWindow, Rejected, TooManyClaims, TooManyEdits)
from leastplaces.rows import is_place, is_window
from leastplaces.texts import parse_claims


class Ledger:
    """Claims for rows with n places that some row fulfils, and the edits that made them."""

    MOST_EDITS = 60
    WORDS = ("claim", "drop")

    def __init__(self, n):
        if not is_place(MAX_PLACES + 1, n) or n == 0:
            raise BadSize(n)
        self.places = n
        # The edits in effect, and the claims after each number of them. They are
        # tuples, so that what a run replaced can be put back as it was.
        self.done = ()
        self.stages = ((),)
        self.seen = (0, n - 1)
        self.running = False
        self.stepping = False

    @classmethod
    def read(cls, text):
        """A new ledger on which the claims of a text were made."""
        n, claims = parse_claims(text)
        ledger = cls(n)
        for index, (first, last, place) in enumerate(claims):
            try:
                ledger.claim(first, last, place)
            except LeastError:
                raise Rejected(index) from None
        return ledger

    @classmethod
    def fresh(cls, n):
        """A new ledger of the same class as the one on which this is called."""
        return cls(n)

    @staticmethod
    def is_edit(value):
        """Whether the value is the name of an editing method with as many arguments as it takes."""
        if not isinstance(value, tuple):
            return False
        return (len(value) == 4 and value[0] == "claim") or (len(value) == 2 and value[0] == "drop")

    @property
    def claims(self):
        """The current claims, in the order in which they were made."""
        return self.stages[-1]

    @property
    def version(self):
        """The number of edits in effect."""
        return len(self.done)

    @property
    def size(self):
        """The number of places of the rows."""
        return self.places

    @property
    def row(self):
        """The row with the least entries that fulfils the claims."""
        return fulfil(self.places, self.stages[-1])

    @property
    def window(self):
        """The window of which possible tells."""
        return self.seen

    @window.setter
    def window(self, value):
        pair = isinstance(value, tuple) and len(value) == 2
        if not pair or not is_window(self.places, value[0], value[1]):
            raise NoWindow(value)
        self.seen = value

    @property
    def possible(self):
        """The possible places of the window."""
        first, last = self.seen
        return places_left(self.places, self.stages[-1], first, last)

    def look(self, value):
        """Assign window and return possible."""
        self.window = value
        return self.possible

    def check_free(self):
        """Raise the error of a change while on_step runs."""
        if self.stepping:
            raise Busy()

    def check_room(self):
        """Raise the errors that an edit has whatever it is."""
        self.check_free()
        if len(self.done) >= MAX_EDITS:
            raise TooManyEdits()

    def check_claim(self, first, last, place):
        """Raise the errors of the edit claim."""
        self.check_room()
        claim = (first, last, place)
        if not is_claim(self.places, claim):
            raise NoClaim(claim)
        if len(self.stages[-1]) >= MAX_CLAIMS:
            raise TooManyClaims()
        ring = find_ring(self.places, self.stages[-1] + (claim,))
        if ring is not None:
            raise Contradiction(ring)

    def put(self, edit, claims):
        """Put an edit in effect that leaves these claims, and return the new version."""
        self.done = self.done + (edit,)
        self.stages = self.stages + (claims,)
        return len(self.done)

    def claim(self, first, last, place):
        """Put a claim at the end and return the new version."""
        self.check_claim(first, last, place)
        return self.put(("claim", first, last, place), self.stages[-1] + ((first, last, place),))

    def drop(self, index):
        """Remove the claim with this index and return the new version."""
        self.check_room()
        if not is_place(len(self.stages[-1]), index):
            raise NoIndex(index)
        return self.put(("drop", index), without(self.stages[-1], index))

    def undo(self):
        """Remove the last edit in effect and return the new version."""
        self.check_free()
        if len(self.done) == 0:
            raise NothingToUndo()
        self.done = self.done[:-1]
        self.stages = self.stages[:-1]
        return len(self.done)

    def batch_of(self, edits):
        """A copy of the edits of a run; raise the errors of values that are none."""
        if not isinstance(edits, (list, tuple)) or len(edits) > BATCH:
            raise BadEdits()
        batch = tuple(edits)
        for index, item in enumerate(batch):
            if not self.is_edit(item):
                raise BadEdit(index)
        return batch

    def do_edit(self, edit):
        """Call the editing method of an edit."""
        if edit[0] == "claim":
            self.claim(edit[1], edit[2], edit[3])
        else:
            self.drop(edit[1])

    def call_step(self, on_step):
        """Call on_step; meanwhile the ledger cannot be edited."""
        self.stepping = True
        try:
            on_step(self)
        finally:
            self.stepping = False

    def do_batch(self, batch, on_step):
        """Do the edits in order, and call on_step after each of them."""
        for index, edit in enumerate(batch):
            try:
                self.do_edit(edit)
            except (LeastError, NoIndex):
                raise Rejected(index) from None
            if on_step is not None:
                self.call_step(on_step)

    def run(self, edits, *, on_step=None):
        """Do all edits or none of them, and return the new version."""
        self.check_free()
        batch = self.batch_of(edits)
        done, stages, seen = self.done, self.stages, self.seen
        version = None
        self.running = True
        try:
            self.do_batch(batch, on_step)
            version = len(self.done)
        finally:
            self.running = False
            # Reached without a version by an error, and by whatever on_step raised.
            if version is None:
                self.done, self.stages, self.seen = done, stages, seen
        return version

    def asked(self, first, last):
        """The only possible place of the window, None if there are several."""
        found = possible_places(self.places, self.stages[-1], first, last)
        return found[0] if len(found) == 1 else None

    def claims_at(self, version):
        """The claims after so many of the edits in effect."""
        if not is_place(len(self.stages), version):
            raise NoVersion(version)
        return self.stages[version]

    def edits(self):
        """The edits in effect."""
        return self.done

    def walk(self):
        """Yield (version, claims) for each version."""
        for version, claims in enumerate(self.stages):
            yield (version, claims)

    def copy(self):
        """A ledger of the same class with the same edits in effect and the same window."""
        other = self.fresh(self.places)
        other.done, other.stages, other.seen = self.done, self.stages, self.seen
        return other

    def __len__(self):
        return len(self.stages[-1])

    def __str__(self):
        return f"{self.places} places, {len(self.stages[-1])} claims, {len(self.done)} edits"

    def __eq__(self, other):
        # Equal gaps mean that the same rows fulfil the claims.
        return (isinstance(other, Ledger) and self.size == other.size
                and all_gaps(self.size, self.claims) == all_gaps(other.size, other.claims))


class ThriftyLedger(Ledger):
    """A ledger that takes no claim that already follows."""

    def claim(self, first, last, place):
        """Put a claim at the end that does not follow, and return the new version."""
        self.check_claim(first, last, place)
        if follows(self.size, self.claims, (first, last, place)):
            raise Needless()
        return super().claim(first, last, place)


class LoggedLedger(Ledger):
    """A ledger that keeps a log of the calls that changed it."""

    def __init__(self, n):
        super().__init__(n)
        self.noted = ()

    @property
    def log(self):
        """A row (name, version) for each call of an editing method, undo or run."""
        return self.noted

    def note(self, name, version):
        """Add a row to the log, except for the edits of a run, and return the version."""
        if not self.running:
            self.noted = self.noted + ((name, version),)
        return version

    def claim(self, first, last, place):
        """Put a claim at the end and return the new version."""
        return self.note("claim", super().claim(first, last, place))

    def drop(self, index):
        """Remove the claim with this index and return the new version."""
        return self.note("drop", super().drop(index))

    def undo(self):
        """Remove the last edit in effect and return the new version."""
        return self.note("undo", super().undo())

    def run(self, edits, *, on_step=None):
        """Do all edits or none of them, and return the new version."""
        return self.note("run", super().run(edits, on_step=on_step))

    def copy(self):
        """A ledger of the same class with the same edits in effect, window and log."""
        other = super().copy()
        other.noted = self.noted
        return other


class LoggedThriftyLedger(LoggedLedger, ThriftyLedger):
    """A ledger that takes no claim that already follows, and keeps a log."""
