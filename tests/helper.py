"""Calls in words, answers cut apart, and means that lie exactly where a test wants them."""

from fractions import Fraction
from math import prod

from spreadmeans.powers import answers

LOWEST = -2147483648
HIGHEST = 2147483647
BOUND = 10 ** 60

# None of these divides 10 ** 60 or 10 ** 60 - 1; their product is about 10 ** 56.
PRIMES = [811, 821, 823, 827, 829, 839, 853, 857, 859, 863, 877, 881, 883, 887, 907, 911, 919, 929, 937]
# The lower numbers that calls can reach have small primes only, never 10 ** 60 itself. The product of
# these primes is above it, and that of those below it, by less than one part in 10 ** 11.
PRIMES_ABOVE = [509, 523, 569, 577, 601, 619, 643, 653, 673, 709, 719, 743, 811, 823, 827, 829, 877, 887, 907, 911, 977]
PRIMES_BELOW = [503, 521, 523, 563, 599, 601, 641, 661, 701, 739, 743, 751, 787, 809, 811, 821, 883, 887, 937, 967, 977]

# The means n! of the powers n: what is found for them has whole factors.
FACTORIALS = [1, 1, 2, 6, 24, 120, 720, 5040, 40320]

MEANS = [5]
FITS = [7]
STRICT = [8]
PROOF = [9]
TURNS = [11]
RANK = [12]


def begin(k):
    return [0, k]


def set_mean(i, a, b):
    return [1, i, a, b]


def row(e, means):
    return [2, e, len(means)] + means


def put(a, b, c, d):
    return [3, a, b, c, d]


def move(a, b):
    return [4, a, b]


def mean(factors):
    return [6, len(factors)] + factors


def angle(j):
    return [10, j]


def most(a, b):
    return [13, a, b]


def take(a, b):
    return [14, a, b]


def zeros(j, a, b, c, d):
    return [15, j, a, b, c, d]


def square(factors):
    return [16, len(factors)] + factors


def joined(calls):
    return [number for call in calls for number in call]


def told(*calls):
    """What is answered to each call, as a list of lists."""
    given = answers(joined(calls))
    cut = []
    at = 0
    while at < len(given):
        cut.append(given[at + 1:at + 1 + given[at]])
        at += 1 + given[at]
    if at != len(given) or len(cut) != len(calls):
        raise AssertionError("the counts don't fit the answers")
    return cut


def last(*calls):
    return told(*calls)[-1]


def pairs(values):
    """Fractions as they are answered, one behind another."""
    return [number for value in values for number in (value.numerator, value.denominator)]


def fractions(answer):
    """What stands behind the number that is answered first, as fractions."""
    return [Fraction(answer[i], answer[i + 1]) for i in range(1, len(answer), 2)]


def means_answer(values):
    return [len(values)] + pairs([Fraction(value) for value in values])


def means_after(*calls):
    """The means that calls leave, as fractions."""
    return fractions(last(*calls, MEANS))


def with_means(means):
    """Calls that leave these means."""
    return [begin(len(means) // 2), row(1, means)]


def points(k, places_and_weights):
    """Calls that leave these points alone."""
    return [begin(k), set_mean(0, 0, 1)] + [put(*place, *weight) for place, weight in places_and_weights]


def value_at(factors, place):
    return sum((factor * place ** i for i, factor in enumerate(factors)), Fraction(0))


def product(factors, other):
    whole = [Fraction(0)] * (len(factors) + len(other) - 1)
    for i, x in enumerate(factors):
        for j, y in enumerate(other):
            whole[i + j] += x * y
    return whole


def mean_by_words(factors, means):
    return sum((factor * means[i] for i, factor in enumerate(factors)), Fraction(0))


def part_over(upper, lower, prime):
    """What upper by lower has over one of the primes of lower, as a fraction between 0 and 1."""
    return Fraction(upper * pow(lower // prime, -1, prime) % prime, prime)


def parts(upper, primes):
    """A whole number, then a fraction for each prime; together: upper by the product of the primes."""
    lower = prod(primes)
    cut = [part_over(upper, lower, prime) for prime in primes]
    whole = Fraction(upper, lower) - sum(cut)
    if whole.denominator != 1 or abs(whole) > 99999 or min(cut) == 0:
        raise AssertionError("no calls lead there")
    return whole.numerator, cut
