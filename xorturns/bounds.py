"""The bounds that the document sets."""

MAX_WIDTH = 6
MAX_SIGNS = 40
MAX_PATTERNS = 6
MAX_EDITS = 60
BATCH = 20
