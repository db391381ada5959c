"""The numbers that stand for no house, no choice, and for the refusals."""

NO_HOUSE = -1

NOT_THERE = -2
NOTHING_HELD = -6
NO_INSTANCE = -11
TAKEN = -17
NOT_ALLOWED = -22
LOTTERY_FULL = -28
NONE_EXISTS = -33
