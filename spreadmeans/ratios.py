"""Fractions: pairs of an upper and a lower number with nothing in common, the lower one 1 or more."""

ZERO = (0, 1)
ONE = (1, 1)
TWO = (2, 1)


def shared_part(a, b):
    """The greatest whole number that divides both; not both are 0."""
    kept = abs(a)
    rest = abs(b)
    while rest != 0:
        smaller = kept % rest
        kept = rest
        rest = smaller
    return kept


def fraction(upper, lower):
    """upper by lower; lower isn't 0."""
    divisor = shared_part(upper, lower)
    if lower < 0:
        divisor = -divisor
    return (upper // divisor, lower // divisor)


def plus(x, y):
    return fraction(x[0] * y[1] + y[0] * x[1], x[1] * y[1])


def less(x, y):
    return fraction(x[0] * y[1] - y[0] * x[1], x[1] * y[1])


def times(x, y):
    return fraction(x[0] * y[0], x[1] * y[1])


def is_less(x, y):
    return x[0] * y[1] < y[0] * x[1]


def divided(x, y):
    """x by y; y isn't 0."""
    return fraction(x[0] * y[1], x[1] * y[0])


def too_long(x):
    """Whether the upper number, without its sign, or the lower one reaches the bound that put, move and take keep."""
    bound = 10 ** 60
    return abs(x[0]) >= bound or x[1] >= bound
