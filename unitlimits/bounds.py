"""The numbers that limit what the other modules take."""

MAX_LETTERS = 4
MAX_STATES = 8
MAX_COUNT = 9
MAX_MOST = 200
MAX_CUT = 20
MAX_CUTS = 3
MAX_PARTED = 40
MAX_ROAD = 4
MAX_LENGTH = 400
MAX_EDITS = 60
BATCH = 20
