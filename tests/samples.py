"""Values that the tests of several modules pass."""

import copy

# Values that are no integers, also those that look like one or equal one.
NOT_INTEGERS = (
    None, True, False, "", "0", "1", "a\nb", (), (0,), (1, 2), [], [0], [[1], {}],
    {}, {"a": 1}, {"0": [0, (1, None)]},
)


def changes(call, *values):
    """Whether a call changes its arguments, also if it raises an error."""
    before = copy.deepcopy(values)
    try:
        call(*values)
    except (ValueError, LookupError):
        pass
    return repr(values) != repr(before)
