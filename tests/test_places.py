"""most, take and zeros."""

import random
import unittest
from fractions import Fraction

from helper import (FACTORIALS, FITS, HIGHEST, LOWEST, MEANS, PROOF, RANK, STRICT, TURNS, angle, answers, begin,
                    fractions, joined, last, means_after, means_answer, most, move, pairs, points, put, row, set_mean,
                    take, told, value_at, with_means, zeros)

# For these means 1, x, x^2 - 1, x^3 - 3 x and x^4 - 6 x^2 + 3 are found; the means of the squares: 1, 1, 2, 6, 24.
EVEN = [1, 0, 1, 0, 3, 0, 15, 0, 105]

NOT_STRICT = ([1, 0, 0], [0, 0, 0], [-1, 0, 0], [1, 3, 9], [1, 3, 8], [0, 1, 9], [0, 0, 1])

UPPER_EDGES = ((LOWEST, -22), (-1000, -22), (-999, 0), (999, 0), (1000, -22), (HIGHEST, -22))
LOWER_EDGES = ((LOWEST, -22), (-1, -22), (0, -22), (1, 0), (999, 0), (1000, -22), (HIGHEST, -22))


def factorials(k):
    return with_means(FACTORIALS[:2 * k + 1])


def even(k):
    return with_means(EVEN[:2 * k + 1])


def random_points(source, count):
    """As many different places, with weights."""
    chosen = {}
    while len(chosen) < count:
        place = (source.randint(-9, 9), source.randint(1, 4))
        chosen.setdefault(Fraction(*place), (place, (source.randint(1, 9), source.randint(1, 9))))
    return list(chosen.values())


def with_zeros(places):
    """Calls after which the polynomial found for k, the count of the places, has just these zeros."""
    k = len(places)
    sums = [sum((place ** i for place in places), Fraction(0)) for i in range(2 * k + 1)]
    sums[-1] += 1
    lower = 256
    return [begin(k), row(lower, [int(one * lower) for one in sums])]


def remainder(factors, other):
    rest = list(factors)
    while len(rest) >= len(other):
        often = rest[-1] / other[-1]
        at = len(rest) - len(other)
        for i, factor in enumerate(other):
            rest[at + i] -= often * factor
        rest.pop()
    while rest and rest[-1] == 0:
        rest.pop()
    return rest


def chain(factors):
    """A polynomial, its derivative, and the remainders below 0: what Sturm counts zeros by."""
    parts = [factors, [i * factor for i, factor in enumerate(factors)][1:]]
    while parts[-1]:
        parts.append([-one for one in remainder(parts[-2], parts[-1])])
    return parts[:-1]


def changes(values):
    signs = [value > 0 for value in values if value != 0]
    return sum(1 for x, y in zip(signs, signs[1:]) if x != y)


def zeros_between(factors, low, high):
    parts = chain(factors)
    return changes([value_at(part, low) for part in parts]) - changes([value_at(part, high) for part in parts])


def zeros_in_all(factors):
    parts = chain(factors)
    below = [part[-1] * (-1) ** (len(part) - 1) for part in parts]
    return changes(below) - changes([part[-1] for part in parts])


class Whole(unittest.TestCase):
    """Whole answers, the counts too, for k 1 to 4."""

    def check(self, calls, asked, expected):
        given = answers(joined(calls + asked))
        self.assertEqual(given, answers(joined(calls)) + expected)
        self.assertEqual(set(map(type, given)), {int})

    def test_most(self):
        self.check(factorials(1), [most(2, 1)], [3, 0, 1, 2])
        self.check(factorials(2), [most(2, 1)], [3, 0, 1, 3])
        self.check(factorials(3), [most(2, 1)], [3, 0, 9, 28])
        self.check(factorials(4), [most(2, 1)], [3, 0, 9, 29])
        for k in (1, 2, 3, 4):
            self.check(factorials(k), [most(0, 5)], [3, 0, 1, k + 1])

    def test_most_may_be_above_1(self):
        self.check([begin(1), row(1, [7, 0, 1])], [most(0, 1)], [3, 0, 7, 1])

    def test_take(self):
        self.check(factorials(1), [take(2, 1), MEANS], [3, 0, 1, 2, 7, 3, 1, 2, 0, 1, 0, 1])
        self.check(factorials(2), [take(2, 1), MEANS],
                   [3, 0, 1, 3, 11, 5, 2, 3, 1, 3, 2, 3, 10, 3, 56, 3])
        for k, weight in ((3, Fraction(9, 28)), (4, Fraction(9, 29))):
            left = [FACTORIALS[i] - weight * 2 ** i for i in range(2 * k + 1)]
            self.check(factorials(k), [take(2, 1), MEANS],
                       [3, 0] + pairs([weight]) + [4 * k + 3] + means_answer(left))

    def test_zeros(self):
        # At 1; at 0.58 and 3.41; at 0.41, 2.29 and 6.28; at 0.32, 1.74, 4.53 and 9.39.
        self.check(factorials(1), [zeros(1, 1, 2, 3, 2)], [2, 1, 1])
        self.check(factorials(2), [zeros(2, 1, 2, 3, 1)], [2, 1, 2])
        self.check(factorials(3), [zeros(3, 1, 2, 7, 1)], [2, 2, 3])
        self.check(factorials(4), [zeros(4, 1, 2, 999, 1)], [2, 3, 4])
        self.check(factorials(4), [zeros(4, -9, 2, 1, 999)], [2, 0, 4])

    def test_refusals_are_one_number(self):
        for asked in (most(1, 1), take(1, 1), zeros(0, 1, 1, 2, 1)):
            self.check([begin(1)], [asked], [1, -33])
        for asked in (most(1, 0), take(1, 0), zeros(0, 1, 0, 2, 1), zeros(0, 1, 1, 1, 1)):
            self.check([begin(1)], [asked], [1, -22])
        self.check([begin(1)], [zeros(2, 1, 1, 2, 1)], [1, -2])


class Refusals(unittest.TestCase):
    """Both edges of each range, the order, and that a refused call changes nothing."""

    def check(self, calls, call, expected):
        given = told(*calls, call, MEANS)
        self.assertEqual(given[-2][0], expected, call)
        if expected < 0:
            self.assertEqual(given[-2], [expected])
            self.assertEqual(given[-1], last(*calls, MEANS), call)

    def test_most_and_take(self):
        for call in (most, take):
            for upper, expected in UPPER_EDGES:
                self.check(factorials(2), call(upper, 1), expected)
            for lower, expected in LOWER_EDGES:
                self.check(factorials(2), call(1, lower), expected)
            self.check(factorials(2), call(1000, 500), -22)

    def test_most_and_take_where_it_does_not_fit_strictly(self):
        for call in (most, take):
            for means in NOT_STRICT:
                self.check(with_means(means), call(1, 2), -33)
                self.check(with_means(means), call(1, 1000), -22)
                self.check(with_means(means), call(-1000, 1), -22)

    def test_where_points_are_too_few(self):
        for k in (1, 2, 3, 4):
            for count in range(k + 2):
                calls = points(k, [((i, 2), (i + 1, 3)) for i in range(count)])
                expected = 0 if count == k + 1 else -33
                for call in (most(1, 3), take(1, 3), zeros(k, 99, 1, 100, 1)):
                    self.check(calls, call, expected)

    def test_zeros_power(self):
        for k in (1, 2, 3, 4):
            for j, expected in ((LOWEST, -2), (-1, -2), (0, 0), (k, k), (k + 1, -2), (HIGHEST, -2)):
                self.check(factorials(k), zeros(j, 0, 1, 99, 1), expected)

    def test_zeros_first_bound(self):
        # All these lie below 2, so nothing but their range can be wrong.
        for upper, expected in ((LOWEST, -22), (-1000, -22), (-999, 0), (999, 0), (1000, -22)):
            self.check(factorials(2), zeros(0, upper, 999, 2, 1), expected)
        for lower, expected in LOWER_EDGES:
            self.check(factorials(2), zeros(0, 1, lower, 2, 1), expected)
        self.check(factorials(2), zeros(0, HIGHEST, 1, 2, 1), -22)
        self.check(factorials(2), zeros(0, -1000, 500, 2, 1), -22)

    def test_zeros_second_bound(self):
        for upper, expected in ((-1000, -22), (-999, 0), (999, 0), (1000, -22), (HIGHEST, -22)):
            self.check(factorials(2), zeros(0, -2, 1, upper, 999), expected)
        for lower, expected in LOWER_EDGES:
            self.check(factorials(2), zeros(0, -2, 1, 1, lower), expected)
        self.check(factorials(2), zeros(0, -2, 1, LOWEST, 1), -22)
        self.check(factorials(2), zeros(0, -2, 1, 1000, 500), -22)

    def test_zeros_bounds_one_behind_the_other(self):
        for low, high, expected in (((1, 1), (1, 1), -22), ((1, 2), (2, 4), -22), ((2, 1), (1, 1), -22),
                                    ((-1, 1), (-2, 1), -22), ((1, 998), (1, 999), -22), ((1, 999), (1, 998), 0),
                                    ((0, 3), (0, 7), -22), ((998, 999), (999, 999), 0), ((2, 3), (3, 5), -22),
                                    ((3, 5), (2, 3), 0), ((-2, 3), (-3, 5), 0), ((-1, 9), (0, 1), 0)):
            self.check(factorials(1), zeros(0, *low, *high), expected)

    def test_zeros_where_it_does_not_fit_strictly(self):
        for means in NOT_STRICT:
            for j in (0, 1):
                self.check(with_means(means), zeros(j, 0, 1, 1, 1), -33)
                self.check(with_means(means), zeros(j, 0, 0, 1, 1), -22)
                self.check(with_means(means), zeros(j, 0, 1, 1, 0), -22)
                self.check(with_means(means), zeros(j, 1, 1, 0, 1), -22)
            self.check(with_means(means), zeros(2, 0, 1, 1, 1), -2)
            self.check(with_means(means), zeros(-1, 1, 0, 1, 0), -2)

    def test_zeros_order_where_it_fits_strictly(self):
        self.check(factorials(1), zeros(2, 1, 0, 1, 0), -2)
        self.check(factorials(1), zeros(-1, 1, 1, 0, 1), -2)

    def test_asking_changes_nothing(self):
        asking = [most(1, 3), zeros(2, 0, 1, 1, 1), zeros(1, -5, 2, 7, 3), most(0, 1)]
        self.assertEqual(last(*factorials(2), *asking, *asking, MEANS), last(*factorials(2), MEANS))


class Most(unittest.TestCase):
    def test_by_the_words(self):
        source = random.Random(21)
        for run in range(60):
            k = 1 + run % 4
            calls = points(k, random_points(source, k + 1 + run % 3))
            found = [fractions(answer) for answer in told(*calls, *[angle(j) for j in range(k + 1)])[len(calls):]]
            a, b = source.randint(-30, 30), source.randint(1, 9)
            total = sum(value_at(one[:-1], Fraction(a, b)) ** 2 / one[-1] for one in found)
            self.assertEqual(last(*calls, most(a, b)), [0] + pairs([1 / total]))

    def test_just_k_and_1_points_have_the_most(self):
        source = random.Random(22)
        for run in range(40):
            k = 1 + run % 4
            chosen = random_points(source, k + 1)
            for place, weight in chosen:
                self.assertEqual(last(*points(k, chosen), most(*place)), [0] + pairs([Fraction(*weight)]))

    def test_no_point_has_more(self):
        source = random.Random(23)
        for run in range(60):
            k = 1 + run % 4
            chosen = random_points(source, k + 2 + run % 3)
            for place, weight in chosen:
                self.assertGreater(fractions(last(*points(k, chosen), most(*place)))[0], Fraction(*weight))

    def test_at_a_zero(self):
        self.assertEqual(last(*factorials(1), most(1, 1)), [0, 1, 1])
        self.assertEqual(last(*even(1), most(0, 1)), [0, 1, 1])
        for place in (1, -1):
            self.assertEqual(last(*even(2), most(place, 1)), [0, 1, 2])
        # 1, x^2 - 1 and x^4 - 6 x^2 + 3 are 1, -1 and 3 at 0, the others 0.
        self.assertEqual([last(*even(k), most(0, 1)) for k in (2, 3, 4)], [[0, 2, 3], [0, 2, 3], [0, 8, 15]])

    def test_at_each_zero_of_the_last(self):
        places = [Fraction(-2), Fraction(-1, 2), Fraction(1), Fraction(3)]
        for k in (1, 2, 3, 4):
            for place in places[:k]:
                # The zeros have the weight 1 each; only the highest mean is more, which the last one alone
                # is told by, and that one is 0 here.
                self.assertEqual(last(*with_zeros(places[:k]), most(*place.as_integer_ratio())), [0, 1, 1])

    def test_moved(self):
        for k in (1, 2, 3, 4):
            self.assertEqual(last(*factorials(k), move(3, 4), most(11, 4)), last(*factorials(k), most(2, 1)))
            self.assertEqual(last(*factorials(k), move(3, 4), move(-3, 4), most(2, 1)),
                             last(*factorials(k), most(2, 1)))


class Take(unittest.TestCase):
    def check_taken(self, calls, a, b, k):
        """As much as the most; it fits then, no longer strictly, and no more may be taken."""
        place = Fraction(a, b)
        before = means_after(*calls)
        amount = last(*calls, most(a, b))
        given = told(*calls, take(a, b), MEANS, FITS, STRICT, RANK, PROOF)[len(calls):]
        weight = fractions(amount)[0]
        self.assertEqual(given[0], amount)
        self.assertEqual(given[1], means_answer([before[i] - weight * place ** i for i in range(2 * k + 1)]))
        self.assertEqual(given[2:], [[1], [0], [k], [-33]], calls)
        self.assertEqual(last(*calls, take(a, b), put(a, b, -1, 999), FITS), [0])
        self.assertEqual(last(*calls, take(a, b), put(a, b, 1, 999), STRICT), [1])

    def test_taken(self):
        for k in (1, 2, 3, 4):
            for a, b in ((0, 1), (2, 1), (-1, 2), (1, 3)):
                self.check_taken(factorials(k), a, b, k)
                self.check_taken(even(k), a, b, k)

    def test_taken_at_a_zero(self):
        self.check_taken(factorials(1), 1, 1, 1)
        self.check_taken(even(2), -1, 1, 2)
        self.check_taken(even(3), 0, 1, 3)
        self.check_taken(with_zeros([Fraction(-2), Fraction(1, 2), Fraction(3)]), 1, 2, 3)

    def test_a_point_taken_off(self):
        source = random.Random(24)
        for run in range(20):
            k = 1 + run % 4
            chosen = random_points(source, k + 1)
            for place, weight in chosen:
                rest = [one for one in chosen if one[0] != place]
                self.assertEqual(told(*points(k, chosen), take(*place), MEANS)[-2:],
                                 [[0] + pairs([Fraction(*weight)]), last(*points(k, rest), MEANS)])

    def test_taken_off_twice(self):
        for k in (1, 2, 3, 4):
            for a, b in ((2, 1), (5, 3)):
                calls = factorials(k) + [take(2, 1)]
                self.assertEqual(told(*calls, take(a, b), MEANS)[-2:], [[-33], last(*calls, MEANS)])

    def test_taken_off_put_back_and_taken_off_again(self):
        calls = factorials(2) + [take(2, 1), put(2, 1, 1, 3)]
        self.assertEqual(means_after(*calls), FACTORIALS[:5])
        self.assertEqual(last(*calls, take(2, 1)), [0, 1, 3])

    def test_refused_where_nothing_can_be_taken(self):
        given = told(begin(1), take(0, 1), MEANS, set_mean(0, -1, 1), take(0, 1), MEANS)
        self.assertEqual(given, [[3], [-33], [3, 1, 1, 0, 1, 0, 1], [0, 1, 1], [-33], [3, -1, 1, 0, 1, 0, 1]])

    def test_moved_there_and_back(self):
        for k in (1, 2, 3):
            calls = factorials(k) + [move(3, 4), take(11, 4), move(-3, 4)]
            self.assertEqual(last(*calls, MEANS), last(*factorials(k), take(2, 1), MEANS))


class Zeros(unittest.TestCase):
    def check(self, calls, j, low, high, expected):
        given = last(*calls, zeros(j, *low.as_integer_ratio(), *high.as_integer_ratio()))
        self.assertEqual(given, expected, (j, low, high))

    def test_a_bound_that_is_a_zero(self):
        self.assertEqual(last(*even(2), zeros(2, -1, 1, 1, 1)), [1, 2])
        self.assertEqual(last(*even(2), zeros(2, -2, 1, -1, 1)), [1, 2])
        self.assertEqual(last(*even(2), zeros(2, 1, 1, 2, 1)), [0, 2])
        self.assertEqual(last(*even(3), zeros(3, 0, 1, 999, 1)), [1, 3])
        self.assertEqual(last(*even(3), zeros(3, -999, 1, 0, 1)), [2, 3])
        self.assertEqual(last(*factorials(1), zeros(1, 1, 1, 2, 1)), [0, 1])
        self.assertEqual(last(*factorials(1), zeros(1, 0, 1, 1, 1)), [1, 1])

    def test_a_bound_that_is_a_zero_of_an_earlier_one(self):
        # x^4 - 6 x^2 + 3 is 0 at 0.74 and 2.33, and below 0 likewise.
        for low, high, expected in (((0, 1), (1, 1), 1), ((1, 1), (3, 1), 1), ((-1, 1), (1, 1), 2),
                                    ((-3, 1), (-1, 1), 1), ((-1, 1), (0, 1), 1), ((-3, 1), (0, 1), 2)):
            self.assertEqual(last(*even(4), zeros(4, *low, *high)), [expected, 4])

    def test_known_zeros_with_all_bounds(self):
        places = [Fraction(-2), Fraction(-1, 2), Fraction(1), Fraction(3)]
        bounds = [Fraction(i, 2) for i in range(-6, 9)]
        for k in (1, 2, 3, 4):
            calls = with_zeros(places[:k])
            for at, low in enumerate(bounds):
                for high in bounds[at + 1:]:
                    between = [place for place in places[:k] if low < place <= high]
                    self.check(calls, k, low, high, [len(between), k])

    def test_no_zero_and_all_zeros_between(self):
        for k in (1, 2, 3, 4):
            for j in range(k + 1):
                self.assertEqual(last(*factorials(k), zeros(j, 0, 1, 10, 1)), [j, j])
                self.assertEqual(last(*factorials(k), zeros(j, -999, 1, 999, 1)), [j, j])
                self.assertEqual(last(*factorials(k), zeros(j, -999, 1, 0, 1)), [0, j])
                self.assertEqual(last(*factorials(k), zeros(j, 10, 1, 999, 1)), [0, j])

    def test_each_j_by_remainders(self):
        source = random.Random(25)
        for run in range(40):
            k = 1 + run % 4
            calls = points(k, random_points(source, k + 1 + run % 3))
            for j in range(k + 1):
                factors = fractions(last(*calls, angle(j)))[:-1]
                self.assertEqual(zeros_in_all(factors), j)
                for ask in range(6):
                    low = Fraction(source.randint(-40, 30), source.randint(1, 5))
                    high = low + Fraction(source.randint(1, 30), source.randint(1, 5))
                    self.check(calls, j, low, high, [zeros_between(factors, low, high), j])

    def test_two_that_follow_one_another(self):
        source = random.Random(26)
        for run in range(60):
            k = 1 + run % 4
            calls = points(k, random_points(source, k + 2))
            low, high = sorted(source.sample(range(-10, 11), 2))
            counts = [last(*calls, zeros(j, low, 1, high, 1))[0] for j in range(k + 1)]
            for one, other in zip(counts, counts[1:]):
                self.assertLessEqual(abs(one - other), 1)

    def test_moved(self):
        for k in (1, 2, 3, 4):
            for j in range(k + 1):
                first = last(*factorials(k), zeros(j, 1, 1, 5, 1))
                self.assertEqual(last(*factorials(k), move(1, 2), zeros(j, 3, 2, 11, 2)), first)
                self.assertEqual(last(*factorials(k), move(1, 2), move(-1, 2), zeros(j, 1, 1, 5, 1)), first)


class Fitting(unittest.TestCase):
    def test_all_is_told_of_points_that_are_enough(self):
        for k in (1, 2, 3, 4):
            calls = points(k, [((i, 1), (1, 1)) for i in range(k + 1)])
            given = told(*calls, FITS, STRICT, RANK, PROOF, TURNS, most(0, 1), zeros(k, 0, 1, k, 1))[len(calls):]
            self.assertEqual(given[:4], [[1], [1], [k + 1], [-33]])
            self.assertEqual(given[4][:5], [k] + pairs([Fraction(k, 2)]) + [0, 1])
            self.assertEqual(given[5:], [[0, 1, 1], [k, k]])


if __name__ == "__main__":
    unittest.main()
