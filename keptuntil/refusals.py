"""The numbers of the refusals."""

WRONG = -1
TOO_MANY = -2
FULL = -3
RELEASED = -3
NOT_THERE = -4
BELOW_LAST = -5
NOT_LET = -9
