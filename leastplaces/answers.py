"""What follows from claims, which shapes they leave, and which places have wanted properties."""

from leastplaces.claims import all_gaps, contradict, fulfil
from leastplaces.errors import BadWish, NoProperty
from leastplaces.joins import rises
from leastplaces.rows import check_window, is_whole
from leastplaces.shapes import distances_at, shape_of

PROPERTIES = ("distance", "fall", "rise", "root")


def can_be_least(gaps, first, last, place):
    """Whether no other entry of the window must be too small for this least place."""
    # A claim only leads away from its place, so it closes a ring just if some way
    # already leads back. The ring has a strict step, as each step to the left is one.
    return all([gaps[other][place] is None for other in range(first, last + 1) if other != place])


def places_left(n, claims, first, last):
    """The possible places of a pair that is known to be a window."""
    gaps = all_gaps(n, claims)
    if contradict(gaps):
        return ()
    return tuple([place for place in range(first, last + 1)
                  if can_be_least(gaps, first, last, place)])


def possible_places(n, claims, first, last):
    """The places that are the least one of the window in some row that fulfils the claims."""
    check_window(n, first, last)
    return places_left(n, claims, first, last)


def follows(n, claims, claim):
    """Whether the claim holds for all rows that fulfil the claims."""
    first, last, place = claim
    return all([other == place for other in places_left(n, claims, first, last)])


def without(claims, index):
    """The claims but the one with this index."""
    return claims[:index] + claims[index + 1:]


def needless(n, claims):
    """The indexes of the claims that follow from all the others, ascending."""
    return tuple([index for index, claim in enumerate(claims)
                  if follows(n, without(claims, index), claim)])


def reduced(n, claims):
    """The claims that remain if from the last one on each that follows is removed."""
    left = claims
    for index in range(len(claims) - 1, -1, -1):
        # Only later claims are gone, so the index is still the same.
        if follows(n, without(left, index), claims[index]):
            left = without(left, index)
    return left


def may_be_root(claims, first, last, root):
    """Whether root can be the least of these places for all claims within them."""
    return all([place == root or not low <= root <= high for low, high, place in claims
                if first <= low and high <= last])


def count_fulfilling(n, claims):
    """The number of shapes with n places that fulfil the claims."""
    counts = {(first, first - 1): 1 for first in range(n + 1)}
    for size in range(1, n + 1):
        for first in range(n - size + 1):
            last = first + size - 1
            # A claim that reaches out of these places was settled by a root outside.
            counts[(first, last)] = sum([
                counts[(first, root - 1)] * counts[(root + 1, last)]
                for root in range(first, last + 1) if may_be_root(claims, first, last, root)])
    return counts[(0, n - 1)]


def may_lead(claims, place, target):
    """Whether the claims allow that the distance of place leads to target, -1 for nowhere."""
    # The least place of a window is the last one that does not lead into it.
    return all([target < first if least == place else target >= first
                for first, last, least in claims if least <= place <= last])


def longer_shapes(claims, shape):
    """The shapes with one place more that the claims allow, descending."""
    place = len(shape)
    return [shape + (distance,) for distance in reversed(distances_at(shape, place))
            if may_lead(claims, place, place - distance if distance > 0 else -1)]


def each_fulfilling(n, claims):
    """Yield the shapes with n places that fulfil the claims in ascending order."""
    # If some row fulfils the claims, each beginning that they allow can be continued.
    rest = [] if fulfil(n, claims) is None else [()]
    while len(rest) > 0:
        shape = rest.pop()
        if len(shape) == n:
            yield shape
        else:
            rest.extend(longer_shapes(claims, shape))


def check_wishes(wanted):
    """Raise the error of the first wrong name, then of the first wrong value."""
    for name in wanted:
        if name not in PROPERTIES:
            raise NoProperty(name)
    for name, value in wanted.items():
        fits = is_whole(value) if name == "distance" else isinstance(value, bool)
        if not fits:
            raise BadWish(value)


def properties_of(row):
    """For each property what it is at each place of the row."""
    shape = shape_of(row)
    low = [place in rises(shape) for place in range(len(row))]
    return {
        "distance": shape,
        "fall": [distance == 0 for distance in shape],
        "rise": low,
        # The root is less than all entries before it and at most each later one.
        "root": [shape[place] == 0 and low[place] for place in range(len(row))],
    }


def select(row, **wanted):
    """The places of the row that have all wanted properties, ascending."""
    check_wishes(wanted)
    told = properties_of(row)
    return tuple([place for place in range(len(row))
                  if all([told[name][place] == value for name, value in wanted.items()])])
