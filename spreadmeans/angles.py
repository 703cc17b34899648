"""Polynomials at right angles, power by power, and whether means fit."""

from spreadmeans.polynomials import less_often, mean_of_square, mean_with_power, power_alone
from spreadmeans.ratios import divided


class Angles:
    """What is found, as pairs of a polynomial and the mean of its square, and whether no proof ended it."""

    def __init__(self):
        self.found = []
        self.fitting = True


def less_found(power, found, means):
    """The power, less each polynomial that's found, as often as puts it at right angles to that one."""
    rest = power_alone(power)
    for pair in found:
        often = divided(mean_with_power(pair[0], power, means), pair[1])
        rest = less_often(rest, pair[0], often)
    return rest


def meets_no_power(factors, k, means):
    """Whether the mean of the polynomial times each power from 0 to k is 0."""
    for power in range(k + 1):
        if mean_with_power(factors, power, means)[0] != 0:
            return False
    return True


def at_right_angles(k, means):
    angles = Angles()
    for power in range(k + 1):
        rest = less_found(power, angles.found, means)
        size = mean_of_square(rest, means)
        if size[0] > 0:
            angles.found.append((rest, size))
        elif size[0] < 0 or not meets_no_power(rest, k, means):
            angles.fitting = False
            return angles
    return angles


def fits_at_all(k, means):
    return at_right_angles(k, means).fitting


def fits_strictly(k, means):
    # A polynomial that is passed over has a square whose mean is 0, so all k and 1 must be found.
    return len(at_right_angles(k, means).found) == k + 1
