"""Claims about least places: rows that fulfil them, and rings that show that there are none."""

from leastplaces.bounds import MAX_CLAIMS
from leastplaces.rows import is_place, is_row, is_window, least_place


def is_claim(n, value):
    """Whether the value is a claim for rows with n places."""
    if not isinstance(value, tuple) or len(value) != 3:
        return False
    first, last, place = value
    return is_window(n, first, place) and is_window(n, place, last)


def claims_error(n, value):
    """None for claims, otherwise what is wrong first and where."""
    if not isinstance(value, tuple) or len(value) > MAX_CLAIMS:
        return (None, "claims")
    for index, item in enumerate(value):
        if not is_claim(n, item):
            return (index, "claim")
    return None


def broken_claims(row, claims):
    """The indexes of the claims that do not hold for the row, ascending."""
    return tuple([index for index, (first, last, place) in enumerate(claims)
                  if least_place(row, first, last) != place])


def step_gap(place, other):
    """By how much the entry of the other place must be greater, if a claim leads there."""
    return 1 if other < place else 0


def direct_gaps(n, claims, place):
    """For each other place the gap that a single claim about this place demands, or None."""
    # All windows with this least place overlap there, so together they are one window.
    low = min([place] + [first for first, last, least in claims if least == place])
    high = max([place] + [last for first, last, least in claims if least == place])
    return [step_gap(place, other) if low <= other <= high else None for other in range(n)]


def greater_gap(known, before, behind):
    """The greater one of a known gap and the sum of two others; None is no gap."""
    if before is None or behind is None:
        return known
    return before + behind if known is None else max(known, before + behind)


def all_gaps(n, claims):
    """Item [place][other]: by how much at least the other entry exceeds the entry of place.

    None if the claims demand nothing. No row fulfils the claims if and only if
    an entry must exceed itself. Otherwise the gaps are the greatest that hold
    for all rows that fulfil the claims, so equal gaps mean the same rows.
    """
    gaps = [direct_gaps(n, claims, place) for place in range(n)]
    for middle in range(n):
        behind = gaps[middle]
        gaps = [[greater_gap(row[other], row[middle], behind[other]) for other in range(n)]
                for row in gaps]
    return gaps


def contradict(gaps):
    """Whether some entry must exceed itself."""
    return any([row[place] > 0 for place, row in enumerate(gaps)])


def fulfil(n, claims):
    """The row with the least entries from 0 on that fulfils the claims, or None."""
    gaps = all_gaps(n, claims)
    if contradict(gaps):
        return None
    return tuple([max([row[place] for row in gaps if row[place] is not None])
                  for place in range(n)])


def steps_from(claims, start):
    """The pairs (index, other) of all claims about the place start."""
    return [(index, other) for index, (first, last, place) in enumerate(claims) if place == start
            for other in range(first, last + 1) if other != place]


def path_between(claims, start, goal):
    """The pairs of a shortest way from start to goal, which must exist."""
    paths = {start: ()}
    rest = [start]
    while goal not in paths:
        place = rest.pop(0)
        for index, other in steps_from(claims, place):
            if other not in paths:
                paths[other] = paths[place] + ((index, other),)
                rest.append(other)
    return paths[goal]


def find_ring(n, claims):
    """A ring of the claims with at most n pairs, None if some row fulfils them."""
    gaps = all_gaps(n, claims)
    for index, (first, last, place) in enumerate(claims):
        for other in range(first, place):
            # A shortest way back meets no place twice, so the ring is short enough.
            if gaps[other][place] is not None:
                return ((index, other),) + path_between(claims, other, place)
    return None


def is_step(n, claims, value):
    """Whether the value is the index of a claim and a place to which the claim leads."""
    if not isinstance(value, tuple) or len(value) != 2:
        return False
    index, other = value
    if not is_place(len(claims), index) or not is_place(n, other):
        return False
    first, last, place = claims[index]
    return first <= other <= last and other != place


def ring_holds(n, claims, value):
    """Whether the value is a ring of the claims."""
    if not isinstance(value, tuple) or not all([is_step(n, claims, item) for item in value]):
        return False
    starts = [claims[index][2] for index, other in value]
    ends = [other for index, other in value]
    # The last pair leads to the place of the first one.
    closed = starts == ends[-1:] + ends[:-1]
    return closed and any([step_gap(start, end) > 0 for start, end in zip(starts, ends)])


def verdict(n, claims):
    """("row", row) with the least row that fulfils the claims, or ("ring", ring)."""
    row = fulfil(n, claims)
    return ("ring", find_ring(n, claims)) if row is None else ("row", row)


def row_holds(n, claims, value):
    """Whether the value is a row with n places that fulfils the claims."""
    return is_row(value) and len(value) == n and len(broken_claims(value, claims)) == 0


def verdict_holds(n, claims, value):
    """Whether the value is ("row", row) or ("ring", ring) with any right row or ring."""
    if not isinstance(value, tuple) or len(value) != 2:
        return False
    word, shown = value
    if word == "row":
        return row_holds(n, claims, shown)
    return word == "ring" and ring_holds(n, claims, shown)
