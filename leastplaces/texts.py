"""Texts of rows, places and claims, and the way back."""

from leastplaces.bounds import MAX_CLAIMS, MAX_ENTRY, MAX_PLACES
from leastplaces.claims import is_claim
from leastplaces.errors import BadText
from leastplaces.rows import is_entry, is_place

DIGITS = "0123456789"


def row_text(row):
    """The text of a row."""
    return " ".join([str(entry) for entry in row])


def places_text(places):
    """The text of places."""
    return row_text(places) if len(places) > 0 else "none"


def claims_text(n, claims):
    """The text of claims for n."""
    words = [f"{first}-{last}>{place}" for first, last, place in claims]
    return " ".join([f"{n}:"] + words)


def number_of(word, most):
    """The integer without a sign and with at most most digits whose text the word is, or None."""
    # The length is tested first, so that a long word is never read as an integer.
    if not 1 <= len(word) <= most or not all([letter in DIGITS for letter in word]):
        return None
    return int(word) if word == "0" or word[0] != "0" else None


def entry_of(word):
    """The entry whose text the word is, or None."""
    most = len(str(MAX_ENTRY))
    if not word.startswith("-"):
        entry = number_of(word, most)
    else:
        size = number_of(word[1:], most)
        # There is no text with a minus sign for 0.
        entry = -size if size is not None and size > 0 else None
    return entry if is_entry(entry) else None


def size_of(word):
    """The number of places whose text with a colon the word is, or None."""
    size = number_of(word[:-1], len(str(MAX_PLACES))) if word.endswith(":") else None
    return size if is_place(MAX_PLACES + 1, size) and size > 0 else None


def claim_of(n, word):
    """The claim for n whose text the word is, or None."""
    first, dash, rest = word.partition("-")
    last, arrow, place = rest.partition(">")
    # A sign that is missing leaves an empty part, which is no number.
    claim = tuple([number_of(part, len(str(MAX_PLACES))) for part in (first, last, place)])
    return claim if is_claim(n, claim) else None


def words_of(value):
    """What stands between the single spaces of a text."""
    if not isinstance(value, str):
        raise BadText(None)
    return value.split(" ")


def parse_row(text):
    """The row whose text this is."""
    row = [entry_of(word) for word in words_of(text)]
    for index, entry in enumerate(row):
        if entry is None or index == MAX_PLACES:
            raise BadText(index)
    return tuple(row)


def parse_claims(text):
    """A tuple (n, claims) for the text of claims for n."""
    head, *words = words_of(text)
    n = size_of(head)
    if n is None:
        raise BadText(0)
    claims = [claim_of(n, word) for word in words]
    for index, claim in enumerate(claims):
        if claim is None or index == MAX_CLAIMS:
            raise BadText(index + 1)
    return (n, tuple(claims))
