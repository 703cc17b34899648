"""begin, set, row, put, move, means, mean and square: what they answer, and what they refuse."""

import random
import unittest
from fractions import Fraction
from math import comb

from helper import (FITS, HIGHEST, LOWEST, MEANS, STRICT, answers, begin, joined, last, mean, means_after,
                    means_answer, move, pairs, product, put, row, set_mean, square, told)


class Whole(unittest.TestCase):
    """Whole answers, the counts too."""

    def check(self, calls, expected):
        self.assertEqual(answers(joined(calls)), joined(expected))

    def test_begin(self):
        for k in (1, 2, 3, 4):
            size = 2 * k + 1
            self.check([begin(k), MEANS], [[1, size], [2 * size + 1, size, 1, 1] + [0, 1] * (2 * k)])

    def test_set(self):
        self.check([begin(1), set_mean(1, -6, 4), set_mean(1, 3, 1), set_mean(0, 0, 5), MEANS],
                   [[1, 3], [3, 0, 0, 1], [3, 0, -3, 2], [3, 0, 1, 1], [7, 3, 0, 1, 3, 1, 0, 1]])

    def test_row(self):
        self.check([begin(1), row(6, [6, -4, 9]), MEANS], [[1, 3], [1, 0], [7, 3, 1, 1, -2, 3, 3, 2]])

    def test_put(self):
        self.check([begin(1), put(-2, 3, 3, 4), MEANS], [[1, 3], [1, 0], [7, 3, 7, 4, -1, 2, 1, 3]])

    def test_move(self):
        self.check([begin(1), row(1, [2, 3, 5]), move(1, 2), MEANS],
                   [[1, 3], [1, 0], [1, 0], [7, 3, 2, 1, 4, 1, 17, 2]])

    def test_mean(self):
        self.check([begin(1), row(2, [2, 3, 5]), mean([1, -2, 3]), mean([4]), mean([0, 0, -1])],
                   [[1, 3], [1, 0], [3, 0, 11, 2], [3, 0, 4, 1], [3, 0, -5, 2]])

    def test_mean_of_no_numbers(self):
        self.check([begin(2), mean([])], [[1, 5], [3, 0, 0, 1]])

    def test_square(self):
        for means, factors, expected in (([1, 1, 2], [1, 2], [13, 2]),
                                         ([1, 1, 2, 6, 24], [1, -1, 2], [81, 2]),
                                         ([1, 1, 2, 6, 24, 120, 720], [0, 1, 0, -1], [337, 1]),
                                         ([1, 1, 2, 6, 24, 120, 720, 5040, 40320], [3, 0, 0, 0, 1], [40473, 2])):
            self.check([begin(len(means) // 2), row(2, means), square(factors)],
                       [[1, len(means)], [1, 0], [3, 0] + expected])

    def test_square_of_no_numbers(self):
        for k in (1, 2, 3, 4):
            self.check([begin(k), square([])], [[1, 2 * k + 1], [3, 0, 0, 1]])
            self.check([begin(k), row(1, [-1] * (2 * k + 1)), square([])], [[1, 2 * k + 1], [1, 0], [3, 0, 0, 1]])

    def test_a_refusal_is_one_number(self):
        self.check([MEANS, begin(0), begin(1), set_mean(3, 1, 1), move(0, 0), MEANS],
                   [[1, -11], [1, -22], [1, 3], [1, -2], [1, -22], [7, 3, 1, 1, 0, 1, 0, 1]])


class Values(unittest.TestCase):
    def test_put_at_0_adds_to_the_power_0_alone(self):
        self.assertEqual(means_after(begin(2), put(0, 7, 5, 2)), [Fraction(7, 2), 0, 0, 0, 0])

    def test_put_at_0_is_not_kept_from_the_power_0(self):
        self.assertEqual(means_after(begin(1), row(1, [0, 0, 0]), put(0, 1, 1, 1)), [1, 0, 0])

    def test_put_takes_weights_below_0_and_0(self):
        self.assertEqual(means_after(begin(1), put(2, 1, -1, 3), put(5, 1, 0, 9)),
                         [Fraction(2, 3), Fraction(-2, 3), Fraction(-4, 3)])

    def test_put_against_the_words(self):
        for k in (1, 2, 3, 4):
            place = Fraction(-6, 7)
            weight = Fraction(10, 4)
            start = [1] + [0] * (2 * k)
            self.assertEqual(means_after(begin(k), put(-6, 7, 10, 4)),
                             [start[i] + weight * place ** i for i in range(2 * k + 1)])

    def test_move_against_the_words(self):
        for k in (1, 2, 3, 4):
            old = [3, -1, 4, 1, -5, 9, 2, -6, 5][:2 * k + 1]
            for step in (Fraction(2, 3), Fraction(-999, 1), Fraction(0, 1), Fraction(1, 999)):
                new = [sum(comb(i, j) * step ** (i - j) * old[j] for j in range(i + 1)) for i in range(2 * k + 1)]
                given = means_after(begin(k), row(1, old), move(step.numerator, step.denominator))
                self.assertEqual(given, new)

    def test_a_moved_point_is_the_point_further_on(self):
        empty = [begin(4), set_mean(0, 0, 1)]
        self.assertEqual(means_after(*empty, put(1, 2, 3, 4), move(5, 3)), means_after(*empty, put(13, 6, 3, 4)))

    def test_moved_there_and_back(self):
        start = [begin(4), row(7, [5, -3, 8, 0, 1, 1, -9, 2, 6])]
        there = means_after(*start, move(-17, 12))
        self.assertNotEqual(there, means_after(*start))
        self.assertEqual(means_after(*start, move(-17, 12), move(17, 12)), means_after(*start))

    def test_mean_against_the_words(self):
        old = [3, -1, 4, 1, -5, 9, 2, -6, 5]
        factors = [-999, 2, 0, 999, 1, -1, 7, 8, -3]
        for size in range(10):
            expected = sum((Fraction(factors[i] * old[i], 11) for i in range(size)), Fraction(0))
            self.assertEqual(last(begin(4), row(11, old), mean(factors[:size])), [0] + pairs([expected]))

    def test_square_against_mean_of_the_product(self):
        source = random.Random(12)
        for run in range(80):
            k = 1 + run % 4
            means = [source.randint(-99, 99) for power in range(2 * k + 1)]
            factors = [source.randint(-9, 9) for power in range(source.randint(1, k + 1))]
            both = [int(one) for one in product(factors, factors)]
            given = told(begin(k), row(7, means), square(factors), mean(both))
            self.assertEqual(given[2], given[3], factors)

    def test_square_at_the_edges_of_its_numbers(self):
        for k in (1, 2, 3, 4):
            means = [3, -1, 4, 1, -5, 9, 2, -6, 5][:2 * k + 1]
            for factors in ([999] * (k + 1), [-999] * (k + 1), [-999, 999], [0] * k + [-999]):
                both = product(factors, factors)
                expected = sum(Fraction(both[i] * means[i], 11) for i in range(len(both)))
                self.assertEqual(last(begin(k), row(11, means), square(factors)), [0] + pairs([expected]))

    def test_square_may_be_below_0(self):
        self.assertEqual(last(begin(1), row(1, [1, 3, 8]), square([-3, 1])), [0, -1, 1])
        self.assertEqual(last(begin(1), row(2, [-3, 0, 0]), square([2])), [0, -6, 1])

    def test_long_runs_against_the_words(self):
        source = random.Random(11)
        for run in range(40):
            k = source.randint(1, 4)
            calls = [begin(k)]
            kept = [Fraction(1)] + [Fraction(0)] * (2 * k)
            for step in range(6):
                a, b, c, d = [source.randint(-9, 9), source.randint(1, 6), source.randint(-9, 9), source.randint(1, 6)]
                place, weight = Fraction(a, b), Fraction(c, d)
                if source.randint(0, 1):
                    calls.append(put(a, b, c, d))
                    kept = [kept[i] + weight * place ** i for i in range(2 * k + 1)]
                else:
                    calls.append(move(a, b))
                    kept = [sum(comb(i, j) * place ** (i - j) * kept[j] for j in range(i + 1))
                            for i in range(2 * k + 1)]
            self.assertEqual(last(*calls, MEANS), means_answer(kept))


class Fractions(unittest.TestCase):
    def test_nothing_in_common(self):
        self.assertEqual(last(begin(1), row(12, [8, -18, 24]), MEANS), [3, 2, 3, -3, 2, 2, 1])
        self.assertEqual(told(begin(1), set_mean(2, 10, 15), set_mean(2, 1, 1))[-1], [0, 2, 3])
        self.assertEqual(last(begin(1), put(0, 1, 1, 2), put(0, 1, 1, 2), MEANS), [3, 2, 1, 0, 1, 0, 1])

    def test_0_is_0_1(self):
        self.assertEqual(last(begin(1), row(99999, [0, 0, 0]), MEANS), [3, 0, 1, 0, 1, 0, 1])
        self.assertEqual(last(begin(1), set_mean(0, 0, 777), set_mean(0, 5, 1)), [0, 0, 1])
        self.assertEqual(last(begin(1), put(0, 1, -7, 7), MEANS), [3, 0, 1, 0, 1, 0, 1])
        self.assertEqual(last(begin(1), row(6, [3, 3, 3]), mean([1, -1])), [0, 0, 1])

    def test_below_0_the_upper_number_has_the_sign(self):
        self.assertEqual(last(begin(1), put(-4, 6, 2, 4), MEANS), [3, 3, 2, -1, 3, 2, 9])
        self.assertEqual(last(begin(1), row(4, [-2, -6, 1]), mean([1, 1])), [0, -2, 1])


class Refusals(unittest.TestCase):
    """Both edges of each range; and that a refused call changes nothing."""

    start = [begin(2), row(3, [4, 1, 5, -2, 7])]

    def check(self, call, expected):
        before = last(*self.start, MEANS)
        given = told(*self.start, call, MEANS)
        self.assertEqual(given[-2][0], expected, call)
        if expected < 0:
            self.assertEqual(given[-2], [expected])
            self.assertEqual(given[-1], before, call)

    def test_begin(self):
        for k, expected in ((LOWEST, -22), (-1, -22), (0, -22), (1, 3), (4, 9), (5, -22), (HIGHEST, -22)):
            self.check(begin(k), expected)

    def test_set_power(self):
        for i, expected in ((LOWEST, -2), (-1, -2), (0, 0), (4, 0), (5, -2), (HIGHEST, -2)):
            self.check(set_mean(i, 1, 1), expected)

    def test_set_power_is_held_to_its_own_k(self):
        for k in (1, 2, 3, 4):
            self.assertEqual(last(begin(k), set_mean(2 * k, 1, 1)), [0, 0, 1])
            self.assertEqual(last(begin(k), set_mean(2 * k + 1, 1, 1)), [-2])

    def test_set_fraction(self):
        for a, expected in ((LOWEST, -22), (-100000, -22), (-99999, 0), (99999, 0), (100000, -22), (HIGHEST, -22)):
            self.check(set_mean(0, a, 1), expected)
        for b, expected in ((LOWEST, -22), (-1, -22), (0, -22), (1, 0), (99999, 0), (100000, -22), (HIGHEST, -22)):
            self.check(set_mean(0, 1, b), expected)

    def test_set_edges_are_kept(self):
        self.assertEqual(last(begin(1), set_mean(0, -99999, 1), set_mean(1, 99999, 1), set_mean(2, 1, 99999), MEANS),
                         [3, -99999, 1, 99999, 1, 1, 99999])

    def test_set_order(self):
        self.check(set_mean(5, 100000, 0), -2)
        self.check(set_mean(-1, 1, 0), -2)

    def test_row_lower_number(self):
        for e, expected in ((LOWEST, -22), (-1, -22), (0, -22), (1, 0), (99999, 0), (100000, -22), (HIGHEST, -22)):
            self.check(row(e, [1, 2, 3, 4, 5]), expected)

    def test_row_length(self):
        for size in range(71):
            self.check(row(1, [1] * size), 0 if size == 5 else -22)

    def test_row_length_is_held_to_its_own_k(self):
        for k in (1, 2, 3, 4):
            for size in range(12):
                self.assertEqual(last(begin(k), row(1, [1] * size)), [0 if size == 2 * k + 1 else -22])

    def test_row_takes_all_numbers(self):
        self.assertEqual(last(begin(1), row(1, [LOWEST, HIGHEST, 0]), MEANS), [3, LOWEST, 1, HIGHEST, 1, 0, 1])
        self.assertEqual(last(begin(1), row(99999, [LOWEST, HIGHEST, 1]), MEANS),
                         means_answer([Fraction(LOWEST, 99999), Fraction(HIGHEST, 99999), Fraction(1, 99999)]))

    def test_put_numbers(self):
        for upper, expected in ((LOWEST, -22), (-1000, -22), (-999, 0), (999, 0), (1000, -22), (HIGHEST, -22)):
            self.check(put(upper, 1, 1, 1), expected)
            self.check(put(1, 1, upper, 1), expected)
        for lower, expected in ((LOWEST, -22), (-1, -22), (0, -22), (1, 0), (999, 0), (1000, -22), (HIGHEST, -22)):
            self.check(put(1, lower, 1, 1), expected)
            self.check(put(1, 1, 1, lower), expected)

    def test_put_is_held_to_the_numbers_as_they_are_told(self):
        self.check(put(1000, 500, 1, 1), -22)
        self.check(put(1, 1, 2000, 2000), -22)

    def test_move_numbers(self):
        for upper, expected in ((LOWEST, -22), (-1000, -22), (-999, 0), (999, 0), (1000, -22), (HIGHEST, -22)):
            self.check(move(upper, 1), expected)
        for lower, expected in ((LOWEST, -22), (-1, -22), (0, -22), (1, 0), (999, 0), (1000, -22), (HIGHEST, -22)):
            self.check(move(1, lower), expected)
        self.check(move(1000, 500), -22)

    def test_mean_length(self):
        for size in range(71):
            self.check(mean([1] * size), 0 if size <= 5 else -22)

    def test_mean_length_is_held_to_its_own_k(self):
        for k in (1, 2, 3, 4):
            self.assertEqual(last(begin(k), mean([1] * (2 * k + 1))), [0, 1, 1])
            self.assertEqual(last(begin(k), mean([1] * (2 * k + 2))), [-22])

    def test_mean_numbers(self):
        for factor, expected in ((LOWEST, -22), (-1000, -22), (-999, 0), (999, 0), (1000, -22), (HIGHEST, -22)):
            for at in range(5):
                self.check(mean([0] * at + [factor] + [0] * (4 - at)), expected)

    def test_square_length(self):
        for size in range(71):
            self.check(square([1] * size), 0 if size <= 3 else -22)

    def test_square_length_is_held_to_its_own_k(self):
        for k in (1, 2, 3, 4):
            self.assertEqual(last(begin(k), square([])), [0, 0, 1])
            self.assertEqual(last(begin(k), square([1] * (k + 1))), [0, 1, 1])
            self.assertEqual(last(begin(k), square([1] * (k + 2))), [-22])

    def test_square_numbers(self):
        for factor, expected in ((LOWEST, -22), (-1000, -22), (-999, 0), (999, 0), (1000, -22), (HIGHEST, -22)):
            for at in range(3):
                self.check(square([0] * at + [factor] + [0] * (2 - at)), expected)

    def test_asking_changes_nothing(self):
        calls = [begin(2), row(3, [4, 1, 5, -2, 7])]
        self.assertEqual(last(*calls, mean([1, 2]), square([1, 2]), FITS, STRICT, MEANS, MEANS), last(*calls, MEANS))


if __name__ == "__main__":
    unittest.main()
