"""fits and strict."""

import random
import unittest
from fractions import Fraction
from itertools import combinations

from helper import FITS, STRICT, answers, begin, joined, mean, means_after, move, put, row, set_mean, told


def determinant(rows):
    rows = [list(line) for line in rows]
    product = Fraction(1)
    for at in range(len(rows)):
        choice = [i for i in range(at, len(rows)) if rows[i][at] != 0]
        if not choice:
            return Fraction(0)
        if choice[0] != at:
            rows[at], rows[choice[0]] = rows[choice[0]], rows[at]
            product = -product
        product *= rows[at][at]
        for i in range(at + 1, len(rows)):
            often = Fraction(rows[i][at]) / rows[at][at]
            rows[i] = [x - often * y for x, y in zip(rows[i], rows[at])]
    return product


def minor(means, chosen):
    return determinant([[means[i + j] for j in chosen] for i in chosen])


def by_minors(means):
    """fits and strict by another road: no minor below 0; all leading ones above 0."""
    size = len(means) // 2 + 1
    chosen = [group for count in range(1, size + 1) for group in combinations(range(size), count)]
    fits = all(minor(means, group) >= 0 for group in chosen)
    strict = all(minor(means, range(count)) > 0 for count in range(1, size + 1))
    return [[int(fits)], [int(strict)]]


class Fits(unittest.TestCase):
    def check(self, calls, fits, strict):
        self.assertEqual(told(*calls, FITS, STRICT)[-2:], [[fits], [strict]], calls)

    def check_row(self, means, fits, strict):
        self.check([begin(len(means) // 2), row(1, means)], fits, strict)

    def test_whole_answers(self):
        calls = [begin(1), FITS, STRICT, set_mean(2, 1, 1), FITS, STRICT, set_mean(2, -1, 1), FITS, STRICT]
        given = answers(joined(calls))
        self.assertEqual(given, [1, 3, 1, 1, 1, 0, 3, 0, 0, 1, 1, 1, 1, 1, 3, 0, 1, 1, 1, 0, 1, 0])
        self.assertEqual(set(map(type, given)), {int})

    def test_all_means_0(self):
        for k in (1, 2, 3, 4):
            self.check_row([0] * (2 * k + 1), 1, 0)

    def test_the_mean_of_the_power_0_below_0(self):
        for k in (1, 2, 3, 4):
            self.check_row([-1] + [0] * (2 * k), 0, 0)
            self.check_row([-1] + [5, 9] * k, 0, 0)

    def test_the_mean_of_the_power_0_is_0_and_what_follows_is_not(self):
        self.check_row([0, 1, 0], 0, 0)
        self.check_row([0, 1, 9], 0, 0)
        self.check_row([0, 0, 1], 1, 0)
        self.check_row([0, 0, -1], 0, 0)
        self.check_row([0, 0, 1, 0, 9], 0, 0)
        self.check_row([0, 0, 0, 1, 9], 0, 0)
        self.check_row([0, 0, 0, 0, 9], 1, 0)

    def test_0_in_the_middle_and_what_follows_is_not(self):
        self.check_row([1, 0, 0, 0, 1], 1, 0)
        self.check_row([1, 0, 0, 1, 1], 0, 0)
        self.check_row([1, 0, 0, 0, -1], 0, 0)
        self.check_row([1, 1, 1, 1, 2], 1, 0)
        self.check_row([1, 1, 1, 2, 9], 0, 0)
        self.check_row([1, 0, 1, 0, 1, 0, 2], 1, 0)
        self.check_row([1, 0, 1, 0, 1, 1, 9], 0, 0)
        self.check_row([1, 0, 0, 0, 0, 0, 0, 0, 1], 1, 0)
        self.check_row([1, 0, 0, 0, 0, 0, 0, 1, 1], 0, 0)
        self.check_row([1, 0, 0, 0, 0, 0, 1, 0, 1], 0, 0)
        self.check_row([1, 0, 0, 0, 0, 1, 9, 0, 99], 0, 0)

    def test_k_1(self):
        self.check_row([1, 3, 8], 0, 0)
        self.check_row([1, 3, 9], 1, 0)
        self.check_row([1, 3, 10], 1, 1)

    def test_k_4(self):
        for highest, fits, strict in ((80, 0, 0), (81, 1, 0), (82, 1, 1)):
            # 1, 0, 1, 0, 3, 0, 15, 0, and 81 is where the last square's mean is just 0.
            self.check_row([1, 0, 1, 0, 3, 0, 15, 0, highest], fits, strict)

    def test_points(self):
        for k in (1, 2, 3, 4):
            for count in range(k + 4):
                calls = [begin(k), set_mean(0, 0, 1)]
                calls += [put(2 * i - 3, 1 + i % 3, 1 + i, 2) for i in range(count)]
                self.check(calls, 1, 1 if count > k else 0)

    def test_a_point_put_twice_is_one_point(self):
        calls = [begin(2), set_mean(0, 0, 1), put(1, 2, 1, 1), put(2, 4, 1, 1), put(3, 1, 1, 1)]
        self.check(calls, 1, 0)

    def test_a_point_taken_off_again(self):
        calls = [begin(2), put(1, 1, 1, 1), put(2, 1, 1, 1)]
        self.check(calls, 1, 1)
        self.check(calls + [put(2, 1, -1, 1)], 1, 0)
        self.check(calls + [put(2, 1, -2, 1)], 0, 0)

    def test_more_than_is_there_taken_off_one_of_few_points(self):
        for k in (1, 2, 3, 4):
            self.check([begin(k), put(1, 1, -1, 999)], 0, 0)

    def test_moved(self):
        starts = ([1, 0, 1, 0, 1, 0, 2], [1, 0, 1, 0, 1, 1, 9], [1, 0, 1, 0, 3, 0, 15], [0] * 7)
        for means, fits, strict in zip(starts, (1, 0, 1, 1), (0, 0, 1, 0)):
            calls = [begin(3), row(1, means)]
            self.check(calls, fits, strict)
            self.check(calls + [move(7, 5)], fits, strict)
            self.check(calls + [move(7, 5), move(-7, 5)], fits, strict)

    def test_the_polynomial_of_no_numbers_is_no_hindrance(self):
        calls = [begin(1), row(1, [1, 3, 10]), mean([])]
        self.assertEqual(told(*calls, FITS, STRICT)[-3:], [[0, 0, 1], [1], [1]])

    def test_small_means_by_minors(self):
        source = random.Random(3)
        seen = []
        for run in range(1500):
            k = source.randint(1, 4)
            means = [source.choice((-1, 0, 0, 1, 2)) for power in range(2 * k + 1)]
            means[0] = source.choice((0, 1, 1, 2))
            means[2 * k] = source.choice((0, 1, 9))
            given = told(begin(k), row(1, means), FITS, STRICT)[-2:]
            self.assertEqual(given, by_minors(means), means)
            seen.append(tuple(joined(given)))
        self.assertEqual(set(seen), {(0, 0), (1, 0), (1, 1)})

    def test_points_by_minors(self):
        source = random.Random(4)
        for run in range(150):
            k = source.randint(1, 4)
            calls = [begin(k), set_mean(0, 0, 1)]
            for point in range(source.randint(1, k + 2)):
                calls.append(put(source.randint(-9, 9), source.randint(1, 9), source.randint(1, 9), 7))
            if source.randint(0, 1):
                calls.append(put(source.randint(-9, 9), source.randint(1, 9), -1, source.randint(1, 99)))
            if source.randint(0, 1):
                calls.append(move(source.randint(-9, 9), source.randint(1, 9)))
            given = told(*calls, FITS, STRICT)[-2:]
            self.assertEqual(given, by_minors(means_after(*calls)), calls)


if __name__ == "__main__":
    unittest.main()
