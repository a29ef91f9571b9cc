"""The codes that a refused call is answered by."""

NO_INSTANCE = -11
NOT_READY = -16
NOT_THERE = -2
INVALID = -22
KNOWN_ALREADY = -17
LIMIT_REACHED = -28
