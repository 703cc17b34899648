"""Polynomials: lists of fractions, the factor of the power 0 first. Means: likewise, the mean of the power 0 first."""

from spreadmeans.ratios import ONE, ZERO, less, plus, times


def power_alone(power):
    """The polynomial that is the power itself."""
    return [ZERO for below in range(power)] + [ONE]


def mean_with_power(factors, power, means):
    """The mean of the polynomial times the power."""
    total = ZERO
    for i in range(len(factors)):
        total = plus(total, times(factors[i], means[i + power]))
    return total


def mean_of(factors, means):
    return mean_with_power(factors, 0, means)


def mean_of_product(factors, other, means):
    total = ZERO
    for i in range(len(factors)):
        total = plus(total, times(factors[i], mean_with_power(other, i, means)))
    return total


def mean_of_square(factors, means):
    return mean_of_product(factors, factors, means)


def value_at(factors, place):
    """What the polynomial is at a place."""
    value = ZERO
    for factor in reversed(factors):
        value = plus(times(value, place), factor)
    return value


def times_power_plus(factors, shift):
    """The polynomial times the sum of the power 1 and shift."""
    product = [ZERO] + factors
    for i in range(len(factors)):
        product[i] = plus(product[i], times(factors[i], shift))
    return product


def less_often(factors, other, often):
    """The polynomial less another one, as often as told; the other one is no longer."""
    rest = list(factors)
    for i in range(len(other)):
        rest[i] = less(rest[i], times(other[i], often))
    return rest
