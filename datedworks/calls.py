"""The calls by their numbers, and how each is laid out."""

CALL_READ = 0
CALL_SHOW = 1
CALL_WEEKDAY = 2
CALL_WORK = 3
CALL_RESTATE = 4
CALL_DROP = 5
CALL_NOT_BEFORE = 6
CALL_NOT_AFTER = 7
CALL_FOLLOWS = 8
CALL_WITHIN = 9
CALL_WITHDRAW = 10
CALL_LATEST = 11
CALL_EARLIEST = 12
CALL_APART = 13
CALL_ORDER = 14
CALL_WHY = 15
CALL_BOUND = 16
CALL_LIST_OF = 17
CALL_TOLD = 18
CALL_IDLE = 19
CALL_TEST = 20

# By a call's number: how many whole numbers it has, and how many rows behind them.
NUMBER_COUNTS = (0, 2, 1, 1, 1, 1, 3, 3, 4, 4, 1, 1, 1, 2, 2, 1, 1, 0, 0, 1, 4)
ROW_COUNTS = (1, 0, 0, 1, 1, 0, 0, 0, 0, 0, 0, 0, 0, 0, 0, 0, 1, 0, 0, 0, 0)
