"""-75 of put, move and take: at the bound, just below it, and that no mean is changed then."""

import unittest
from fractions import Fraction
from math import prod

from helper import (BOUND, FITS, MEANS, PRIMES, PRIMES_ABOVE, PRIMES_BELOW, STRICT, begin, last, means_after,
                    means_answer, most, move, pairs, parts, put, set_mean, take, told)
from spreadmeans.ratios import too_long


def towards_power_0(upper, primes):
    """Calls whose last one, a put, gives the mean of the power 0 that upper and the primes' product."""
    whole, cut = parts(upper, primes)
    return [begin(1), set_mean(0, whole, 1)] + [put(0, 1, part.numerator, part.denominator) for part in cut]


def towards_power_1(upper, primes):
    """Likewise for the power 1, in the middle: the means beside it are short."""
    whole, cut = parts(upper, primes)
    calls = [put(1, 1, part.numerator, part.denominator) for part in cut]
    return ([begin(1), set_mean(1, whole, 1)] + calls[:-1] + [set_mean(0, 0, 1), set_mean(2, 0, 1)] + calls[-1:])


def towards_power_2(upper, primes):
    """Likewise for the power 2, with a move as the last call: its mean grows by twice the step."""
    whole, cut = parts(upper, primes)
    prime = cut[-1].denominator
    step = Fraction(cut[-1].numerator * pow(2, -1, prime) % prime, prime)
    whole += (cut[-1] - 2 * step).numerator
    calls = [put(1, 1, part.numerator, part.denominator) for part in cut[:-1]]
    return ([begin(1), set_mean(2, whole, 1)] + calls + [set_mean(0, 0, 1), set_mean(1, 1, 1)]
            + [move(step.numerator, step.denominator)])


WAYS = ((0, towards_power_0), (1, towards_power_1), (2, towards_power_2))


class AtTheBound(unittest.TestCase):
    def check_taken(self, upper, primes):
        for power, way in WAYS:
            calls = way(upper, primes)
            with self.subTest(power=power):
                self.assertEqual(set(answer[0] for answer in told(*calls)), {0, 3})
                self.assertEqual(means_after(*calls)[power], Fraction(upper, prod(primes)))

    def check_refused(self, upper, primes):
        for power, way in WAYS:
            calls = way(upper, primes)
            with self.subTest(power=power):
                given = told(*calls)
                self.assertEqual(set(answer[0] for answer in given[:-1]), {0, 3})
                self.assertEqual(given[-1], [-75])
                self.assertEqual(means_after(*calls), means_after(*calls[:-1]))

    def test_upper_just_below(self):
        self.check_taken(BOUND - 1, PRIMES)

    def test_upper_at_the_bound(self):
        self.check_refused(BOUND, PRIMES)

    def test_upper_above_the_bound(self):
        self.check_refused(BOUND + 1, PRIMES)

    def test_upper_below_0_just_below(self):
        self.check_taken(1 - BOUND, PRIMES)

    def test_upper_below_0_at_the_bound(self):
        self.check_refused(-BOUND, PRIMES)

    def test_lower_just_below(self):
        self.check_taken(1, PRIMES_BELOW)
        self.check_taken(-1, PRIMES_BELOW)

    def test_lower_just_above(self):
        self.check_refused(1, PRIMES_ABOVE)
        self.check_refused(-1, PRIMES_ABOVE)

    def test_the_primes_lie_beside_the_bound(self):
        self.assertTrue(0 < prod(PRIMES_ABOVE) - BOUND < 10 ** 49)
        self.assertTrue(0 < BOUND - prod(PRIMES_BELOW) < 10 ** 49)

    def test_one_fraction_by_itself(self):
        for upper, lower, expected in ((BOUND - 1, 1, False), (BOUND, 1, True), (1 - BOUND, 1, False),
                                       (-BOUND, 1, True), (1, BOUND - 1, False), (1, BOUND, True)):
            self.assertEqual(too_long((upper, lower)), expected)


def towards_take(upper, primes, second):
    """Calls after which the mean of the power 1 is upper by the primes' product, and it fits strictly.

    Taken off at 0, the mean of the power 0 becomes the square of the one of the power 1 by the second.
    """
    whole, cut = parts(upper, primes)
    return ([begin(1), set_mean(1, whole, 1)] + [put(1, 1, part.numerator, part.denominator) for part in cut]
            + [set_mean(0, 99999, 1), set_mean(2, second, 1)])


class TakeAtTheBound(unittest.TestCase):
    few = PRIMES[:9]

    def check_taken(self, calls, left):
        given = told(*calls, take(0, 1), FITS, STRICT)[len(calls):]
        self.assertEqual(given, [[0] + pairs([99999 - left]), [1], [0]])
        self.assertEqual(means_after(*calls, take(0, 1)), [left] + means_after(*calls)[1:])

    def check_refused(self, calls):
        given = told(*calls, take(0, 1), STRICT, MEANS)[len(calls):]
        self.assertEqual(given, [[-75], [1], last(*calls, MEANS)])

    def test_upper_just_below(self):
        upper = 10 ** 30 - 1
        self.check_taken(towards_take(upper, self.few, 99997), Fraction(upper ** 2, prod(self.few) ** 2 * 99997))
        self.assertEqual(last(*towards_take(upper, self.few, 99997), take(0, 1), MEANS)[1], upper ** 2)

    def test_upper_at_the_bound(self):
        left = Fraction(BOUND, prod(self.few) ** 2 * 99997)
        self.assertEqual(left.numerator, BOUND)
        self.check_refused(towards_take(10 ** 30, self.few, 99997))

    def test_upper_just_above(self):
        self.check_refused(towards_take(10 ** 30 + 1, self.few, 99997))

    def test_lower(self):
        ten = PRIMES[9:]
        lower = prod(ten) ** 2
        edge = (BOUND - 1) // lower
        self.assertTrue(1 < edge < 99999)
        self.check_taken(towards_take(1, ten, edge), Fraction(1, lower * edge))
        self.check_refused(towards_take(1, ten, edge + 1))

    def test_what_is_taken_is_not_held_to_the_bound(self):
        whole, cut = parts(BOUND - 1, PRIMES)
        calls = [begin(1), set_mean(0, whole, 1)] + [put(0, 1, part.numerator, part.denominator) for part in cut]
        calls += [set_mean(1, 1, 99991), set_mean(2, 99989, 1)]
        left = Fraction(1, 99991 ** 2 * 99989)
        taken = Fraction(BOUND - 1, prod(PRIMES)) - left
        self.assertTrue(taken.numerator > BOUND and taken.denominator > BOUND)
        self.assertEqual(told(*calls, most(0, 1), take(0, 1), MEANS)[len(calls):],
                         [[0] + pairs([taken])] * 2 + [means_answer([left, Fraction(1, 99991), 99989])])

    def test_the_power_counts(self):
        calls = [begin(4), put(1, 997, 1, 1), put(1, 991, 1, 1), put(1, 1, 3, 1), put(2, 1, 1, 1)]
        given = told(*calls, most(1, 983), take(1, 983), MEANS, STRICT, take(1, 1))[len(calls):]
        self.assertEqual([answer[0] for answer in given], [0, -75, 9, 1, 0])
        self.assertEqual(given[1:], [[-75], last(*calls, MEANS), [1], [0, 3, 1]])

    def test_what_is_wrong_comes_before_what_is_long(self):
        calls = [begin(4), put(1, 997, 1, 1), put(1, 991, 1, 1), put(1, 1, 3, 1)]
        self.assertEqual(last(*calls, take(1, 983)), [-33])
        self.assertEqual(last(*calls, put(2, 1, 1, 1), take(1000, 983)), [-22])
        self.assertEqual(last(*calls, put(2, 1, 1, 1), take(1, 0)), [-22])


class OverTheBound(unittest.TestCase):
    def test_put_over_and_over(self):
        calls = [begin(4), put(1, 997, 1, 1), put(1, 991, 1, 1)]
        given = told(*calls, put(1, 983, 1, 1), MEANS)
        expected = [Fraction(1, 997) ** i + Fraction(1, 991) ** i + (1 if i == 0 else 0) for i in range(9)]
        self.assertEqual(given, [[9], [0], [0], [-75], means_answer(expected)])

    def test_move_over_and_over(self):
        calls = [begin(4), move(1, 997), move(1, 991)]
        given = told(*calls, move(1, 983), MEANS)
        step = Fraction(1, 997) + Fraction(1, 991)
        self.assertEqual(given, [[9], [0], [0], [-75], means_answer([step ** i for i in range(9)])])

    def test_the_power_counts(self):
        calls = [begin(3), put(1, 997, 1, 1), put(1, 991, 1, 1), put(1, 983, 1, 1), put(1, 977, 1, 1)]
        self.assertEqual(told(*calls), [[7], [0], [0], [0], [-75]])

    def test_what_is_wrong_comes_before_what_is_long(self):
        calls = [begin(4), put(1, 997, 1, 1), put(1, 991, 1, 1)]
        self.assertEqual(last(*calls, put(1, 983, 1, 0)), [-22])
        self.assertEqual(last(*calls, put(1, 983, 1000, 1)), [-22])
        self.assertEqual(last(*calls, move(1000, 983)), [-22])

    def test_only_the_outcome_is_held_to_the_bound(self):
        calls = [begin(4), put(1, 997, 1, 1), put(1, 991, 1, 1), put(1, 983, 1, 1), put(1, 997, -1, 1),
                 put(1, 983, 1, 1)]
        self.assertEqual(told(*calls), [[9], [0], [0], [-75], [0], [0]])


if __name__ == "__main__":
    unittest.main()
