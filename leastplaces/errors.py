"""The errors of the package.

The fields are kept as the very objects that were passed. Python itself keeps
them as the arguments of the error too, so a traceback shows them without a
message of its own.
"""


class LeastError(ValueError):
    """The base of all errors but those of a failed lookup."""


class NoRows(LeastError):
    """Rows are needed, and there are none."""


class NotAlike(LeastError):
    """The row with this index has another number of places than the first one."""

    def __init__(self, index):
        self.index = index


class NotShape(LeastError):
    """The value is not a shape."""


class BadTargets(LeastError):
    """The value is not targets of the two shapes."""

    def __init__(self, value):
        self.value = value


class NoProperty(LeastError):
    """Places have no property with this name."""

    def __init__(self, name):
        self.name = name


class BadWish(LeastError):
    """The value is not of the kind that its property has."""

    def __init__(self, value):
        self.value = value


class BadSize(LeastError):
    """The value is not a number of places of a row."""

    def __init__(self, value):
        self.value = value


class NoClaim(LeastError):
    """The value is not a claim."""

    def __init__(self, value):
        self.value = value


class TooManyClaims(LeastError):
    """There is no room for another claim."""


class Contradiction(LeastError):
    """No row fulfils the claims, as the ring shows."""

    def __init__(self, ring):
        self.ring = ring


class Needless(LeastError):
    """The claim already follows from the others."""


class TooManyEdits(LeastError):
    """There is no room for another edit."""


class NothingToUndo(LeastError):
    """No edit is in effect."""


class BadEdits(LeastError):
    """The edits are not a list or tuple, or they are too many for one run."""


class BadEdit(LeastError):
    """The item with this index is not an edit."""

    def __init__(self, index):
        self.index = index


class Rejected(LeastError):
    """The edit or claim with this index raised an error."""

    def __init__(self, index):
        self.index = index


class Busy(LeastError):
    """The ledger cannot be edited while its run calls a function."""


class BadText(LeastError):
    """The word with this index is wrong; None if the value is not a text."""

    def __init__(self, index):
        self.index = index


class NoWindow(LookupError):
    """The value, a first and a last place, is not a window."""

    def __init__(self, value):
        self.value = value


class NoIndex(LookupError):
    """There is nothing with this index."""

    def __init__(self, value):
        self.value = value


class NoVersion(LookupError):
    """There is no such version."""

    def __init__(self, value):
        self.value = value
