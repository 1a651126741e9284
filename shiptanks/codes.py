"""The numbers that stand for calls, and those that stand for refusals."""

START = 0
LEG = 1
PERSONS = 2
SET = 3
BUNKER = 4
ASHORE = 5
HOURS = 6
LASTS = 7
NEXT_GO = 8
MAY = 9
AHEAD = 10
ROOM = 11
WANTS = 12
WHERE = 13
LOOK = 14
END = 15
FULL = 16
TANKS = 17
FLOWS = 18
SUMS = 19
BACK = 20
AGAIN = 21
STATE = 22

# How many whole numbers each call takes, by the call's number.
WIDTHS = (6, 3, 2, 3, 1, 2, 1, 0, 0, 0, 1, 0, 0, 1, 1, 0, 1, 0, 0, 0, 0, 0, 0)

NONE_THERE = -2
TOO_LITTLE = -12
NOT_HERE = -16
SO_ALREADY = -17
WRONG_NUMBER = -22
NO_MORE = -28
NOT_SOON = -33
NO_ROOM = -62
TOO_LATE = -75
