"""The numbers that stand for a refused call."""

NONE_SUCH = -2
NOTHING = -6
NOT_BEGUN = -11
NOT_NOW = -16
SO_ALREADY = -17
OUT_OF_RANGE = -22
TOO_MANY = -28
CANNOT_BE = -33
