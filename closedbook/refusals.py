"""The numbers that refusals are told by."""

WRONG_NUMBER = -1
NO_ROOM = -2
NONE_THERE = -3
TOO_MANY = -4
NOT_FIRST_ONES = -5
NOT_AS_TOLD = -6
