"""The limits of the package, in one place so that all modules agree on them."""

# The places of a row, and its entries from -MAX_ENTRY to MAX_ENTRY.
MAX_PLACES = 12
MAX_ENTRY = 10 ** 9

# The places of a shape that is only counted and numbered.
MAX_COUNT = 60

# The claims that are considered together.
MAX_CLAIMS = 30

# The entries of a text row, and the repetitions of a block in a far text.
MAX_TEXT = 60
MAX_TIMES = 10 ** 12

# The edits in effect of a ledger, and the edits of one run.
MAX_EDITS = 60
BATCH = 20
