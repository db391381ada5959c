"""The numbers that stand for no house and for the refusals."""

NO_HOUSE = -1

NOT_THERE = -2
NONE_HELD = -6
NO_INSTANCE = -11
TAKEN = -17
NOT_ALLOWED = -22
NO_FACTOR = -33
