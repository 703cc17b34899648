"""proof, angle, turns and rank."""

import random
import unittest
from fractions import Fraction

from helper import (FACTORIALS, FITS, HIGHEST, LOWEST, MEANS, PROOF, RANK, STRICT, TURNS, angle, answers, begin,
                    fractions, joined, last, mean_by_words, means_after, move, pairs, points, product, put, row, set_mean,
                    told, with_means)

# What is found for FACTORIALS, and the means of the squares.
FOUND = [[1], [-1, 1], [2, -4, 1], [-6, 18, -9, 1], [24, -96, 72, -16, 1]]
SIZES = [1, 1, 4, 36, 576]


def factorials(k):
    return FACTORIALS[:2 * k + 1]


def by_words(means):
    """What is found, with the means of the squares, and the proof or None: the words, one after another."""
    k = len(means) // 2
    means = [Fraction(one) for one in means]
    found = []
    for power in range(k + 1):
        alone = [Fraction(0)] * power + [Fraction(1)]
        q = list(alone)
        for p, size in found:
            often = mean_by_words(product(alone, p), means) / size
            q = [x - often * y for x, y in zip(q, p + [0] * (len(q) - len(p)))]
        size = mean_by_words(product(q, q), means)
        if size > 0:
            found.append((q, size))
        elif size < 0:
            return found, (q, size)
        else:
            met = [mean_by_words([0] * i + q, means) for i in range(k + 1)]
            later = [i for i in range(k + 1) if met[i] != 0]
            if later:
                i = later[0]
                often = (means[2 * i] + 1) / (2 * met[i])
                proof = [-often * x for x in q + [0] * (i - len(q))] + [1]
                return found, (proof, mean_by_words(product(proof, proof), means))
    return found, None


def told_polynomial(factors, size):
    """As proof and angle answer it."""
    return [len(factors)] + pairs([Fraction(one) for one in factors] + [Fraction(size)])


def expected_by_words(means):
    """The answers to proof, rank, and angle for each j."""
    found, proof = by_words(means)
    powers = [len(q) - 1 for q, size in found]
    given = [told_polynomial(*proof), [-33]] if proof else [[-33], [len(found)]]
    for j in range(len(means) // 2 + 1):
        whole = powers[:j + 1] == list(range(j + 1))
        given.append(told_polynomial(*found[j]) if whole else [-33])
    return given


def asked(calls, k):
    """The answers to proof, rank, and angle for each j."""
    return told(*calls, PROOF, RANK, *[angle(j) for j in range(k + 1)])[len(calls):]


class Whole(unittest.TestCase):
    """Whole answers, the counts too, for k 1 to 4."""

    def check(self, means, call, expected):
        given = answers(joined(with_means(means) + [call]))
        self.assertEqual(given, [1, len(means), 1, 0] + expected)
        self.assertEqual(set(map(type, given)), {int})

    def test_proof(self):
        self.check([1, 3, 8], PROOF, [7, 2, -3, 1, 1, 1, -1, 1])
        self.check([1, 1, 2, 6, 18], PROOF, [9, 3, 2, 1, -4, 1, 1, 1, -2, 1])
        self.check([1, 0, 1, 0, 1, 1, 9], PROOF, [11, 4, 5, 1, 0, 1, -5, 1, 1, 1, -1, 1])
        self.check([1, 0, 0, 0, 0, 0, 1, 0, 1], PROOF, [13, 5, 0, 1, 0, 1, -1, 1, 0, 1, 1, 1, -1, 1])

    def test_proof_with_fractions(self):
        self.check([0, -1, 2], PROOF, [7, 2, 3, 2, 1, 1, -1, 1])
        self.check([2, 1, 0], PROOF, [7, 2, -1, 2, 1, 1, -1, 2])

    def test_angle(self):
        self.check(factorials(1), angle(0), [5, 1, 1, 1, 1, 1])
        self.check(factorials(1), angle(1), [7, 2, -1, 1, 1, 1, 1, 1])
        self.check(factorials(2), angle(2), [9, 3, 2, 1, -4, 1, 1, 1, 4, 1])
        self.check(factorials(3), angle(3), [11, 4, -6, 1, 18, 1, -9, 1, 1, 1, 36, 1])
        self.check(factorials(4), angle(4), [13, 5, 24, 1, -96, 1, 72, 1, -16, 1, 1, 1, 576, 1])

    def test_angle_with_fractions(self):
        self.check([2, 1, 3], angle(1), [7, 2, -1, 2, 1, 1, 5, 2])
        self.check([2, 1, 3], angle(0), [5, 1, 1, 1, 2, 1])

    def test_turns(self):
        self.check(factorials(1), TURNS, [5, 1, 1, 1, 0, 1])
        self.check(factorials(2), TURNS, [9, 2, 1, 1, 0, 1, 3, 1, 1, 1])
        self.check(factorials(3), TURNS, [13, 3, 1, 1, 0, 1, 3, 1, 1, 1, 5, 1, 4, 1])
        self.check(factorials(4), TURNS, [17, 4, 1, 1, 0, 1, 3, 1, 1, 1, 5, 1, 4, 1, 7, 1, 9, 1])

    def test_turns_with_fractions(self):
        self.check([2, 1, 3], TURNS, [5, 1, 1, 2, 0, 1])
        self.check([2, 0, 1, -1, 5], TURNS, [9, 2, 0, 1, 0, 1, -1, 1, 1, 2])

    def test_rank(self):
        for k in (1, 2, 3, 4):
            self.check(factorials(k), RANK, [1, k + 1])
            self.check([1] + [0] * (2 * k), RANK, [1, 1])

    def test_refusals_are_one_number(self):
        for k in (1, 2, 3, 4):
            self.check(factorials(k), PROOF, [1, -33])
            self.check(factorials(k), angle(k + 1), [1, -2])
            self.check([1] + [0] * (2 * k), angle(1), [1, -33])
            self.check([1] + [0] * (2 * k), TURNS, [1, -33])
            self.check([-1] + [0] * (2 * k), RANK, [1, -33])


class Proof(unittest.TestCase):
    def check(self, means, factors, size):
        self.assertEqual(last(*with_means(means), PROOF), told_polynomial(factors, size), means)

    def test_below_0_at_each_power(self):
        for k in (1, 2, 3, 4):
            for power in range(k + 1):
                means = factorials(k)
                means[2 * power] -= SIZES[power] + 3
                self.check(means, FOUND[power], -3)

    def test_0_at_each_power_and_each_later_one_met_first(self):
        for k in (2, 3, 4):
            for power in range(k):
                for later in range(power + 1, k + 1):
                    for met in (2, -3):
                        self.check_met(k, power, later, met)

    def check_met(self, k, power, later, met):
        q = FOUND[power]
        means = factorials(k)
        means[2 * power] -= SIZES[power]
        for i in range(power + 1, later + 1):
            means[power + i] -= mean_by_words([0] * i + q, means).numerator
        means[power + later] += met
        often = Fraction(means[2 * later] + 1, 2 * met)
        proof = [-often * x for x in q + [0] * (later - len(q))] + [1]
        self.check(means, proof, -1)

    def test_the_first_that_is_met(self):
        self.check([0, 0, 1, 1, 1, 1, 1], [-1, 0, 1], -1)
        self.check([0, 1, 3, 1, 1, 1, 1, 1, 1], [-2, 1], -1)

    def test_the_mean_of_the_power_0_below_0(self):
        for k in (1, 2, 3, 4):
            self.check([-7] + [0] * (2 * k), [1], -7)
            self.check([-7] + [5, 9] * k, [1], -7)

    def test_0_in_the_middle_and_what_follows_is_not(self):
        self.check([0, 1, 9], [-5, 1], -1)
        self.check([0, 1, -1], [0, 1], -1)
        self.check([0, 0, -3], [0, 1], -3)
        self.check([1, 0, 0, 1, 1], [0, -1, 1], -1)
        self.check([1, 0, 0, 0, -1], [0, 0, 1], -1)
        self.check([0, 0, 1, 0, 9], [-5, 0, 1], -1)
        self.check([0, 0, 0, 1, 9], [0, -5, 1], -1)
        self.check([1, 1, 1, 2, 9], [5, -5, 1], -1)
        self.check([1, 0, 0, 0, 0, 1, 9, 0, 99], [0, -50, 0, 0, 1], -1)

    def test_all_means_0(self):
        for k in (1, 2, 3, 4):
            self.assertEqual(last(begin(k), row(1, [0] * (2 * k + 1)), PROOF), [-33])

    def test_where_it_fits_there_is_none(self):
        for means in ([0, 0, 1], [1, 3, 9], [1, 3, 10], [1, 0, 0, 0, 1], [1, 1, 1, 1, 2], [0, 0, 0, 0, 9]):
            self.assertEqual(told(*with_means(means), FITS, PROOF)[2:], [[1], [-33]])

    def test_of_points_with_a_weight_below_0(self):
        for k in (1, 2, 3, 4):
            calls = points(k, [((i, 2), (i + 1, 3)) for i in range(k)] + [((-7, 3), (-1, 999))])
            given = fractions(last(*calls, PROOF))
            means = means_after(*calls)
            self.assertEqual(mean_by_words(product(given[:-1], given[:-1]), means), given[-1])
            self.assertLess(given[-1], 0)


class Angle(unittest.TestCase):
    def check_at_right_angles(self, calls, j):
        """Told just by this: its highest factor is 1, and with each lower power its mean is 0."""
        answer = last(*calls, angle(j))
        given = fractions(answer)
        factors, size = given[:-1], given[-1]
        means = means_after(*calls)
        self.assertEqual((answer[0], len(factors), factors[-1]), (j + 1, j + 1, 1), calls)
        for power in range(j):
            self.assertEqual(mean_by_words([0] * power + factors, means), 0, calls)
        self.assertEqual(size, mean_by_words(product(factors, factors), means), calls)
        self.assertGreater(size, 0)

    def test_each_j(self):
        for k in (1, 2, 3, 4):
            for j in range(k + 1):
                self.assertEqual(last(*with_means(factorials(k)), angle(j)), told_polynomial(FOUND[j], SIZES[j]))

    def test_points(self):
        for k in (1, 2, 3, 4):
            for count in range(k + 4):
                calls = points(k, [((2 * i - 3, 1 + i % 3), (1 + i, 2)) for i in range(count)])
                for j in range(k + 1):
                    if j < count:
                        self.check_at_right_angles(calls, j)
                    else:
                        self.assertEqual(last(*calls, angle(j)), [-33], (k, count, j))

    def test_where_it_does_not_fit(self):
        for k in (1, 2, 3, 4):
            for power in range(k + 1):
                means = factorials(k)
                means[2 * power] -= SIZES[power] + 1
                for j in range(k + 1):
                    expected = told_polynomial(FOUND[j], SIZES[j]) if j < power else [-33]
                    self.assertEqual(last(*with_means(means), angle(j)), expected)

    def test_behind_one_that_is_passed_over(self):
        for means, first in (([1, 0, 0, 0, 1], [1, 1, 1, 1, 1]), ([0, 0, 0, 0, 1], [-33]), ([0, 0, 1, 0, 0], [-33])):
            given = told(*with_means(means), *[angle(j) for j in range(3)])[2:]
            self.assertEqual(given, [first, [-33], [-33]], means)
        self.assertEqual(told(*with_means([0, 0, 3]), RANK, angle(0), angle(1))[2:], [[1], [-33], [-33]])

    def test_edges(self):
        for k in (1, 2, 3, 4):
            for j, expected in ((LOWEST, -2), (-1, -2), (0, 1), (k, k + 1), (k + 1, -2), (HIGHEST, -2)):
                self.assertEqual(last(*with_means(factorials(k)), angle(j))[0], expected)

    def test_order(self):
        for means in ([0, 0, 0], [-1, 0, 0], [1, 0, 0]):
            for j, expected in ((-1, -2), (1, -33), (2, -2)):
                self.assertEqual(last(*with_means(means), angle(j)), [expected])


class Turns(unittest.TestCase):
    def check_next(self, calls, k):
        """The next one is the one times the power 1, less it and the one before, as often as turns tells."""
        given = fractions(last(*calls, TURNS))
        found = [fractions(last(*calls, angle(j)))[:-1] for j in range(k + 1)]
        before = []
        for j in range(k):
            itself, earlier = given[2 * j], given[2 * j + 1]
            expected = [Fraction(0)] + found[j]
            for often, factors in ((itself, found[j]), (earlier, before)):
                for i, factor in enumerate(factors):
                    expected[i] -= often * factor
            self.assertEqual(found[j + 1], expected, calls)
            before = found[j]
        self.assertEqual((given[1], len(given)), (0, 2 * k))

    def test_the_next_one(self):
        source = random.Random(5)
        for run in range(60):
            k = 1 + run % 4
            calls = [begin(k)] + [put(i, source.randint(1, 9), source.randint(1, 9), 7) for i in range(1, k + 3)]
            self.check_next(calls, k)
            self.check_next(calls + [move(-7, 3)], k)

    def test_where_it_fits_but_not_strictly(self):
        for k in (1, 2, 3, 4):
            for count in range(k + 1):
                self.assertEqual(last(*points(k, [((i, 1), (1, 1)) for i in range(count)]), TURNS), [-33])
            self.assertEqual(last(*points(k, [((i, 1), (1, 1)) for i in range(k + 1)]), TURNS)[0], k)

    def test_where_it_does_not_fit(self):
        for k in (1, 2, 3, 4):
            for power in range(k + 1):
                means = factorials(k)
                means[2 * power] -= SIZES[power] + 1
                self.assertEqual(last(*with_means(means), TURNS), [-33])


class Rank(unittest.TestCase):
    def test_points(self):
        for k in (1, 2, 3, 4):
            for count in range(k + 4):
                calls = points(k, [((2 * i - 3, 1 + i % 3), (1 + i, 2)) for i in range(count)])
                self.assertEqual(last(*calls, RANK), [min(count, k + 1)])

    def test_all_means_0(self):
        for k in (1, 2, 3, 4):
            self.assertEqual(last(*with_means([0] * (2 * k + 1)), RANK), [0])

    def test_one_is_passed_over(self):
        self.assertEqual(last(*with_means([1, 0, 0, 0, 1]), RANK), [2])
        self.assertEqual(last(*with_means([0, 0, 1]), RANK), [1])
        self.assertEqual(last(*with_means([0, 0, 0, 0, 0, 0, 0, 0, 1]), RANK), [1])

    def test_where_it_does_not_fit(self):
        for means in ([-1, 0, 0], [1, 3, 8], [0, 1, 9], [1, 0, 0, 1, 1], [1, 0, 1, 0, 1, 1, 9]):
            self.assertEqual(told(*with_means(means), FITS, RANK)[2:], [[0], [-33]])


class Together(unittest.TestCase):
    def test_small_means_by_the_words(self):
        source = random.Random(6)
        for run in range(1500):
            k = 1 + run % 4
            means = [source.choice((-1, 0, 0, 1, 2)) for power in range(2 * k + 1)]
            means[0] = source.choice((0, 1, 1, 2))
            means[2 * k] = source.choice((0, 1, 9, 40))
            self.assertEqual(asked(with_means(means), k), expected_by_words(means), means)

    def test_points_by_the_words(self):
        source = random.Random(7)
        for run in range(200):
            k = 1 + run % 4
            calls = [begin(k), set_mean(0, 0, 1)]
            for point in range(source.randint(0, k + 2)):
                calls.append(put(source.randint(-9, 9), source.randint(1, 4), source.randint(1, 9), 7))
            if source.randint(0, 1):
                calls.append(put(source.randint(-9, 9), source.randint(1, 4), -1, source.randint(1, 99)))
            self.assertEqual(asked(calls, k), expected_by_words(means_after(*calls)), calls)

    def test_it_fits_just_if_there_is_no_proof(self):
        source = random.Random(8)
        for run in range(400):
            k = 1 + run % 4
            means = [source.randint(1, 2)] + [source.choice((-1, 0, 1)) for power in range(2 * k)]
            fits, strict, proof, rank = told(*with_means(means), FITS, STRICT, PROOF, RANK)[2:]
            self.assertEqual(fits == [1], proof == [-33])
            self.assertEqual(fits == [0], rank == [-33])
            self.assertEqual(strict == [1], rank == [k + 1])
            if fits == [0]:
                self.assertLess(fractions(proof)[-1], 0)

    def test_moved_there_and_back(self):
        starts = ([1, 0, 1, 0, 1, 0, 2], [1, 0, 1, 0, 1, 1, 9], [1, 0, 1, 0, 3, 0, 15], [0] * 7, factorials(3),
                  [-1, 2, 3, 4, 5, 6, 7], [0, 0, 0, 1, 9, 9, 9])
        for means in starts:
            calls = with_means(means)
            asking = [FITS, STRICT, PROOF, RANK, TURNS, MEANS] + [angle(j) for j in range(4)]
            first = told(*calls, *asking)[2:]
            there = told(*calls, move(7, 5), *asking)[3:]
            back = told(*calls, move(7, 5), move(-7, 5), *asking)[4:]
            self.assertEqual(first[:2] + [first[3]], there[:2] + [there[3]], means)
            self.assertEqual(first[2] == [-33], there[2] == [-33], means)
            self.assertEqual(first, back, means)

    def test_asking_changes_nothing(self):
        for means in (factorials(2), [1, 0, 0, 0, 1], [1, 0, 0, 1, 1], [0] * 5):
            calls = with_means(means)
            asking = [PROOF, angle(0), angle(2), angle(3), TURNS, RANK]
            self.assertEqual(last(*calls, *asking, *asking, MEANS), last(*calls, MEANS))


if __name__ == "__main__":
    unittest.main()
