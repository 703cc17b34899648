"""What the polynomials at right angles tell of a place, where it fits strictly."""

from spreadmeans.polynomials import value_at
from spreadmeans.ratios import ONE, ZERO, divided, plus, times


def most_at(found, place):
    """The most that may sit at a place."""
    total = ZERO
    for pair in found:
        value = value_at(pair[0], place)
        total = plus(total, divided(times(value, value), pair[1]))
    return divided(ONE, total)


def zeros_above(found, power, place):
    """How many zeros of the polynomial found for the power lie above a place."""
    # Of three that follow one another the outer two have other signs where the middle one is 0, so
    # these polynomials are a chain of Sturm's: there are as many zeros above a place as changes of
    # sign at it, and a value of 0 is passed over. The first one is 1 everywhere.
    changes = 0
    sign = 1
    for pair in found[:power + 1]:
        if sign * value_at(pair[0], place)[0] < 0:
            changes += 1
            sign = -sign
    return changes
