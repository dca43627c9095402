"""The numbers that refuse a call."""

THERE_IS_NONE = -2
NOT_SO = -6
OWES_LESS = -12
BOUND_ALREADY = -17
WRONG_NUMBER = -22
NO_MORE_STATES = -28
TOO_MUCH_OWED = -75
