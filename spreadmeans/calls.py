"""The calls: each takes the object, the call's whole numbers and its row, and gives back what is answered."""

from spreadmeans.angles import fits_at_all, fits_strictly
from spreadmeans.polynomials import mean_of
from spreadmeans.ratios import fraction, too_long
from spreadmeans.spreads import first_means, moved, with_point

NO_SUCH_POWER = -2
NOT_BEGUN = -11
NOT_TAKEN = -22
TOO_LONG = -75

BEGIN = 0


class CallNotBuilt(NotImplementedError):
    """A call of the document that this program doesn't have yet."""


def is_small_fraction(upper, lower):
    return -999 <= upper <= 999 and 1 <= lower <= 999


def keep_unless_long(spread, changed):
    for one in changed:
        if too_long(one):
            return [TOO_LONG]
    spread.means = changed
    return [0]


def begin(spread, numbers, row):
    k = numbers[0]
    if not 1 <= k <= 4:
        return [NOT_TAKEN]
    spread.k = k
    spread.means = first_means(k)
    return [len(spread.means)]


def set_mean(spread, numbers, row):
    i = numbers[0]
    upper = numbers[1]
    lower = numbers[2]
    if not 0 <= i <= 2 * spread.k:
        return [NO_SUCH_POWER]
    if not (-99999 <= upper <= 99999 and 1 <= lower <= 99999):
        return [NOT_TAKEN]
    old = spread.means[i]
    spread.means[i] = fraction(upper, lower)
    return [0, old[0], old[1]]


def set_row(spread, numbers, row):
    lower = numbers[0]
    if not 1 <= lower <= 99999 or len(row) != len(spread.means):
        return [NOT_TAKEN]
    spread.means = [fraction(upper, lower) for upper in row]
    return [0]


def put(spread, numbers, row):
    if not (is_small_fraction(numbers[0], numbers[1]) and is_small_fraction(numbers[2], numbers[3])):
        return [NOT_TAKEN]
    place = fraction(numbers[0], numbers[1])
    weight = fraction(numbers[2], numbers[3])
    return keep_unless_long(spread, with_point(spread.means, place, weight))


def move(spread, numbers, row):
    if not is_small_fraction(numbers[0], numbers[1]):
        return [NOT_TAKEN]
    return keep_unless_long(spread, moved(spread.means, fraction(numbers[0], numbers[1])))


def tell_means(spread, numbers, row):
    told = [len(spread.means)]
    for one in spread.means:
        told.extend(one)
    return told


def tell_mean(spread, numbers, row):
    if len(row) > len(spread.means):
        return [NOT_TAKEN]
    for factor in row:
        if not -999 <= factor <= 999:
            return [NOT_TAKEN]
    mean = mean_of([fraction(factor, 1) for factor in row], spread.means)
    return [0, mean[0], mean[1]]


def tell_fits(spread, numbers, row):
    return [1 if fits_at_all(spread.k, spread.means) else 0]


def tell_strict(spread, numbers, row):
    return [1 if fits_strictly(spread.k, spread.means) else 0]


BUILT = {
    0: begin,
    1: set_mean,
    2: set_row,
    3: put,
    4: move,
    5: tell_means,
    6: tell_mean,
    7: tell_fits,
    8: tell_strict,
}


def answer(spread, number, numbers, row):
    if number != BEGIN and spread.k == 0:
        return [NOT_BEGUN]
    if number not in BUILT:
        raise CallNotBuilt(f"call {number} is not built yet")
    return BUILT[number](spread, numbers, row)
