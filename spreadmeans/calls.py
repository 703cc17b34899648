"""The calls: each takes the object, the call's whole numbers and its row, and gives back what is answered."""

from spreadmeans.angles import all_found_up_to, at_right_angles, fits_at_all, fits_strictly, turn
from spreadmeans.places import most_at, zeros_above
from spreadmeans.polynomials import mean_of, mean_of_square
from spreadmeans.ratios import ZERO, fraction, is_less, less, too_long
from spreadmeans.spreads import first_means, moved, with_point

NO_SUCH_POWER = -2
NOT_BEGUN = -11
NOT_TAKEN = -22
NOT_TOLD = -33
TOO_LONG = -75

BEGIN = 0


def is_small_fraction(upper, lower):
    return -999 <= upper <= 999 and 1 <= lower <= 999


def is_small_polynomial(row, longest):
    return len(row) <= longest and all([-999 <= factor <= 999 for factor in row])


def whole_factors(row):
    return [fraction(factor, 1) for factor in row]


def with_fractions(first, fractions):
    """The number that is answered first, then fractions, number by number."""
    told = [first]
    for one in fractions:
        told.extend(one)
    return told


def keep_unless_long(spread, changed):
    """Keeps the changed means and tells True, or False, with nothing kept, if one of them is too long."""
    for one in changed:
        if too_long(one):
            return False
    spread.means = changed
    return True


def angles_of(spread):
    return at_right_angles(spread.k, spread.means)


def begin(spread, numbers, row):
    k = numbers[0]
    if not 1 <= k <= 4:
        return [NOT_TAKEN]
    spread.k = k
    spread.means = first_means(k)
    return [len(spread.means)]


def set_mean(spread, numbers, row):
    i = numbers[0]
    upper = numbers[1]
    lower = numbers[2]
    if not 0 <= i <= 2 * spread.k:
        return [NO_SUCH_POWER]
    if not (-99999 <= upper <= 99999 and 1 <= lower <= 99999):
        return [NOT_TAKEN]
    old = spread.means[i]
    spread.means[i] = fraction(upper, lower)
    return with_fractions(0, [old])


def set_row(spread, numbers, row):
    lower = numbers[0]
    if not 1 <= lower <= 99999 or len(row) != len(spread.means):
        return [NOT_TAKEN]
    spread.means = [fraction(upper, lower) for upper in row]
    return [0]


def put(spread, numbers, row):
    if not (is_small_fraction(numbers[0], numbers[1]) and is_small_fraction(numbers[2], numbers[3])):
        return [NOT_TAKEN]
    place = fraction(numbers[0], numbers[1])
    weight = fraction(numbers[2], numbers[3])
    if not keep_unless_long(spread, with_point(spread.means, place, weight)):
        return [TOO_LONG]
    return [0]


def move(spread, numbers, row):
    if not is_small_fraction(numbers[0], numbers[1]):
        return [NOT_TAKEN]
    if not keep_unless_long(spread, moved(spread.means, fraction(numbers[0], numbers[1]))):
        return [TOO_LONG]
    return [0]


def tell_means(spread, numbers, row):
    return with_fractions(len(spread.means), spread.means)


def tell_mean(spread, numbers, row):
    if not is_small_polynomial(row, len(spread.means)):
        return [NOT_TAKEN]
    return with_fractions(0, [mean_of(whole_factors(row), spread.means)])


def tell_fits(spread, numbers, row):
    return [1 if fits_at_all(angles_of(spread)) else 0]


def tell_strict(spread, numbers, row):
    return [1 if fits_strictly(angles_of(spread), spread.k) else 0]


def tell_proof(spread, numbers, row):
    angles = angles_of(spread)
    if fits_at_all(angles):
        return [NOT_TOLD]
    factors = angles.proof[0]
    return with_fractions(len(factors), factors + [angles.proof[1]])


def tell_angle(spread, numbers, row):
    j = numbers[0]
    if not 0 <= j <= spread.k:
        return [NO_SUCH_POWER]
    angles = angles_of(spread)
    if not all_found_up_to(angles, j):
        return [NOT_TOLD]
    factors = angles.found[j][0]
    return with_fractions(len(factors), factors + [angles.found[j][1]])


def tell_turns(spread, numbers, row):
    angles = angles_of(spread)
    if not fits_strictly(angles, spread.k):
        return [NOT_TOLD]
    told = [spread.k]
    for j in range(spread.k):
        for one in turn(angles.found, j, spread.means):
            told.extend(one)
    return told


def tell_rank(spread, numbers, row):
    angles = angles_of(spread)
    if not fits_at_all(angles):
        return [NOT_TOLD]
    return [len(angles.found)]


def tell_most(spread, numbers, row):
    if not is_small_fraction(numbers[0], numbers[1]):
        return [NOT_TAKEN]
    angles = angles_of(spread)
    if not fits_strictly(angles, spread.k):
        return [NOT_TOLD]
    return with_fractions(0, [most_at(angles.found, fraction(numbers[0], numbers[1]))])


def take(spread, numbers, row):
    if not is_small_fraction(numbers[0], numbers[1]):
        return [NOT_TAKEN]
    angles = angles_of(spread)
    if not fits_strictly(angles, spread.k):
        return [NOT_TOLD]
    place = fraction(numbers[0], numbers[1])
    most = most_at(angles.found, place)
    if not keep_unless_long(spread, with_point(spread.means, place, less(ZERO, most))):
        return [TOO_LONG]
    return with_fractions(0, [most])


def tell_zeros(spread, numbers, row):
    j = numbers[0]
    if not 0 <= j <= spread.k:
        return [NO_SUCH_POWER]
    if not (is_small_fraction(numbers[1], numbers[2]) and is_small_fraction(numbers[3], numbers[4])):
        return [NOT_TAKEN]
    low = fraction(numbers[1], numbers[2])
    high = fraction(numbers[3], numbers[4])
    if not is_less(low, high):
        return [NOT_TAKEN]
    angles = angles_of(spread)
    if not fits_strictly(angles, spread.k):
        return [NOT_TOLD]
    # Where it fits strictly, each polynomial found has as many different zeros as its power.
    return [zeros_above(angles.found, j, low) - zeros_above(angles.found, j, high), j]


def tell_square(spread, numbers, row):
    if not is_small_polynomial(row, spread.k + 1):
        return [NOT_TAKEN]
    return with_fractions(0, [mean_of_square(whole_factors(row), spread.means)])


CALLS = {
    0: begin,
    1: set_mean,
    2: set_row,
    3: put,
    4: move,
    5: tell_means,
    6: tell_mean,
    7: tell_fits,
    8: tell_strict,
    9: tell_proof,
    10: tell_angle,
    11: tell_turns,
    12: tell_rank,
    13: tell_most,
    14: take,
    15: tell_zeros,
    16: tell_square,
}


def answer(spread, number, numbers, row):
    if number != BEGIN and spread.k == 0:
        return [NOT_BEGUN]
    return CALLS[number](spread, numbers, row)
