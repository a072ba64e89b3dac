"""The bounds that the other modules keep to."""

MAX_SIDE = 8
MAX_WRONG = 8
MAX_EDGE = 200
MAX_DEEDS = 30
