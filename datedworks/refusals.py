"""The numbers by which calls are refused."""

BAD_FORM = -1
NO_DATE = -2
WRONG_ORDER = -3
BAD_KEY = -4
KEY_TAKEN = -5
NOT_THERE = -6
NO_WAY = -7
FULL = -8
OUT_OF_RANGE = -9
SAME_WORK = -10
IN_USE = -11
NO_CHAIN = -12
BAD_KIND = -13
