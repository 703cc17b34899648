"""Polynomials at right angles, power by power, and what they tell of the means."""

from spreadmeans.polynomials import less_often, mean_of_product, mean_of_square, mean_with_power, power_alone
from spreadmeans.ratios import ONE, TWO, ZERO, divided, plus, times


class Angles:
    """What is found, and the proof, if there's one: each a pair of a polynomial and the mean of its square."""

    def __init__(self):
        self.found = []
        self.proof = None


def less_found(power, found, means):
    """The power, less each polynomial that's found, as often as puts it at right angles to that one."""
    rest = power_alone(power)
    for pair in found:
        often = divided(mean_with_power(pair[0], power, means), pair[1])
        rest = less_often(rest, pair[0], often)
    return rest


def first_power_met(factors, k, means):
    """The first power up to k for which the mean of the polynomial times it isn't 0; None if there's none."""
    for power in range(k + 1):
        if mean_with_power(factors, power, means)[0] != 0:
            return power
    return None


def proof_with_power(power, rest, means):
    """The proof by a polynomial whose square's mean is 0 and whose mean with the power isn't."""
    # The mean of this one's square is -1, however great that of the power's square is. The rest meets
    # no power up to its own, so the power is the longer one.
    often = divided(plus(means[2 * power], ONE), times(TWO, mean_with_power(rest, power, means)))
    proof = less_often(power_alone(power), rest, often)
    return (proof, mean_of_square(proof, means))


def proof_from(rest, size, k, means):
    """The proof that a polynomial which isn't found leads to; None if it leads to none."""
    if size[0] < 0:
        return (rest, size)
    power = first_power_met(rest, k, means)
    if power is None:
        return None
    return proof_with_power(power, rest, means)


def at_right_angles(k, means):
    angles = Angles()
    for power in range(k + 1):
        rest = less_found(power, angles.found, means)
        size = mean_of_square(rest, means)
        if size[0] > 0:
            angles.found.append((rest, size))
        else:
            angles.proof = proof_from(rest, size, k, means)
        if angles.proof is not None:
            return angles
    return angles


def fits_at_all(angles):
    return angles.proof is None


def fits_strictly(angles, k):
    # A polynomial that is passed over has a square whose mean is 0, so all k and 1 must be found.
    return len(angles.found) == k + 1


def all_found_up_to(angles, power):
    # The powers only rise: the one at this place is for this power just if none was passed over ahead of it.
    return len(angles.found) > power and len(angles.found[power][0]) == power + 1


def turn(found, power, means):
    """How often the one for the power, and the one before, go off it times the power 1 to leave the next one."""
    factors = found[power][0]
    size = found[power][1]
    itself = divided(mean_of_product(factors, [ZERO] + factors, means), size)
    before = ZERO
    if power > 0:
        before = divided(size, found[power - 1][1])
    return (itself, before)
