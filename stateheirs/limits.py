"""Which of the numbers that are handed in are wrong."""

MOST_AT_START = 4
MOST_TREATIES = 8
MOST_UNITS = 1000000
MOST_OWED = 10000000
MOST_PARTS = 9


def wrong_start(n, t):
    return n < 1 or n > MOST_AT_START or t < 1 or t > MOST_TREATIES


def wrong_units(x):
    return x < 1 or x > MOST_UNITS


def wrong_mode(mode):
    return mode > 1


def wrong_parts(p, q):
    return p > MOST_PARTS or q > MOST_PARTS or p + q == 0
