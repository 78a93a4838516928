"""The numbers that limit what is handed over."""

MAX_LETTERS = 3
MAX_STATES = 40
MAX_FEW = 8
MAX_LIST = 40
MAX_LENGTH = 400
MAX_EDITS = 60
BATCH = 20
