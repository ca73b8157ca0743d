"""The numbers that are answered when a call is refused."""

NOT_REFUSED = 0
WRONG = -1
NO_DESK = -2
NO_LETTER = -2
NOT_THERE = -3
TOO_LATE = -4
FULL = -5
WITHIN = -6
