"""Patterns: parts of a text with the shape of a row, also where a block is repeated very often."""

from leastplaces.errors import NoIndex
from leastplaces.rows import is_place
from leastplaces.shapes import shape_of


def stands_at(shape, text, place):
    """Whether the entries from this place on exist and have the shape."""
    # Where entries are missing, the part is shorter, so its shape is another one.
    return shape_of(text[place:place + len(shape)]) == shape


def each_match(text, pattern):
    """Yield the places of a text row at which the pattern matches, ascending."""
    shape = shape_of(pattern)
    for place in range(len(text)):
        if stands_at(shape, text, place):
            yield place


def matches(text, pattern):
    """The places of a text row at which the pattern matches, ascending."""
    return tuple(each_match(text, pattern))


def starts_in(block, pattern):
    """The places of a block at which the pattern matches if the block is repeated without end."""
    shape = shape_of(pattern)
    # Behind each place of the first block there are enough entries for the pattern.
    text = block * (len(pattern) + 1)
    return [place for place in range(len(block)) if stands_at(shape, text, place)]


def count_matches(block, times, pattern):
    """The number of places of a far text at which the pattern matches."""
    # The last place where the pattern fits into the text, -1 if it fits nowhere.
    last = max(-1, len(block) * times - len(pattern))
    # Each match comes again one block later, until last.
    return sum([(last - start) // len(block) + 1 for start in starts_in(block, pattern)])


def match_at(block, times, pattern, index):
    """The place of the match with this index in a far text."""
    if not is_place(count_matches(block, times, pattern), index):
        raise NoIndex(index)
    starts = starts_in(block, pattern)
    rounds, at = divmod(index, len(starts))
    return rounds * len(block) + starts[at]
