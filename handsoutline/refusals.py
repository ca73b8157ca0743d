"""The numbers that are answered when a call is refused."""

WRONG = -1
NO_DESK = -2
NOT_THERE = -3
TOO_LATE = -4
FULL = -5
WITHIN = -6
