"""The numbers that calls answer first."""

DONE = 0
WANTS_PLACE = 16
HAS_ANSWER = 32
ROW_IS_FULL = 33
PUTS_RECORD = 64

WRONG_ARGUMENTS = -2
NOT_NOW = -4
