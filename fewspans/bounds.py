"""The limits that the document names."""

LAST_POSITION = 10 ** 12
MAX_TARGETS = 24
MAX_PIECES = 30
MAX_BLOCKS = 8
MAX_COLUMNS = 8
MAX_EDITS = 60
BATCH = 20
