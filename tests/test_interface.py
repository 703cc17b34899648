"""How calls are handed in, -11, begin coming again, and that nothing is changed or kept."""

import unittest

import spreadmeans.powers
from helper import (FITS, HIGHEST, LOWEST, MEANS, PROOF, RANK, STRICT, TURNS, angle, answers, begin, joined, last, mean,
                    most, move, put, row, set_mean, square, take, told, zeros)

ALL_BUT_BEGIN = [
    [1, 0, 1, 1], [2, 1, 3, 1, 2, 3], [3, 1, 1, 1, 1], [4, 1, 1], [5], [6, 2, 1, 1], [7], [8], [9], [10, 0], [11],
    [12], [13, 1, 1], [14, 1, 1], [15, 0, 0, 1, 1, 1], [16, 2, 1, 1],
]
ALL_BUT_BEGIN_WRONG = [
    [1, -1, 1, 0], [2, 0, 0], [2, 0, 70] + [1] * 70, [3, 1, 0, 1, 0], [4, LOWEST, HIGHEST], [6, 70] + [9999] * 70,
    [10, -1], [10, HIGHEST], [13, 1, 0], [13, LOWEST, 1], [14, 1, 0], [14, 1, HIGHEST], [15, -1, 1, 0, 1, 0],
    [15, 1, 2, 1, 1, 1], [15, 5, LOWEST, LOWEST, HIGHEST, HIGHEST], [16, 0], [16, 1, 1000], [16, 70] + [9999] * 70,
]
SOME_CALLS = [
    begin(2), row(6, [9, 4, 8, 2, 50]), put(1, 2, 3, 4), move(-5, 6), set_mean(4, 77, 3), MEANS, mean([1, 2, 3]),
    mean([]), FITS, STRICT, row(0, []), move(1, 0), begin(9), MEANS, RANK, TURNS, angle(2), angle(3), most(1, 2),
    zeros(2, -1, 2, 7, 3), square([1, 2, 3]), square([]), take(1, 2), take(1, 2), PROOF, put(1, 2, -1, 3), PROOF, MEANS,
]
# Each of the 17 calls, and rows of 70 numbers, with what is answered behind any calls.
EACH_CALL = [
    (begin(2), [5]), (row(1, [1, 1, 2, 6, 24]), [0]), (set_mean(0, 1, 1), [0, 1, 1]), (put(2, 1, 1, 3), [0]),
    (take(2, 1), [0, 2, 3]), (put(2, 1, 1, 3), [0]), (move(1, 2), [0]), (move(-1, 2), [0]),
    (row(1, [0] * 70), [-22]), (mean([1] * 70), [-22]), (square([1] * 70), [-22]),
    (MEANS, [5, 1, 1, 1, 1, 2, 1, 6, 1, 24, 1]), (mean([1, -2, 0, 1]), [0, 5, 1]), (FITS, [1]), (STRICT, [1]),
    (PROOF, [-33]), (angle(2), [3, 2, 1, -4, 1, 1, 1, 4, 1]), (TURNS, [2, 1, 1, 0, 1, 3, 1, 1, 1]), (RANK, [3]),
    (most(2, 1), [0, 1, 3]), (zeros(2, 1, 2, 3, 1), [1, 2]), (square([1, -1, 2]), [0, 81, 1]),
]


class Watched(list):
    """A list that fails when something changes it."""

    def fail(self, *given, **named):
        raise AssertionError("what is handed in was changed")

    append = clear = extend = insert = pop = remove = reverse = sort = fail
    __setitem__ = __delitem__ = __iadd__ = __imul__ = fail


class BeforeABegin(unittest.TestCase):
    def test_all_else_is_11(self):
        for call in ALL_BUT_BEGIN + ALL_BUT_BEGIN_WRONG:
            self.assertEqual(answers(call), [1, -11], call)

    def test_one_behind_another(self):
        calls = ALL_BUT_BEGIN + ALL_BUT_BEGIN_WRONG
        self.assertEqual(told(*calls, begin(1), MEANS), [[-11]] * len(calls) + [[3], [3, 1, 1, 0, 1, 0, 1]])

    def test_a_refused_begin_begins_nothing(self):
        for k in (LOWEST, -1, 0, 5, HIGHEST):
            for call in ALL_BUT_BEGIN:
                self.assertEqual(told(begin(k), call, begin(k)), [[-22], [-11], [-22]])

    def test_a_begin_refused_later_changes_nothing(self):
        means = [3, 1, 2, 1, 1, 3, 2]
        for k in (LOWEST, 0, 5, HIGHEST):
            given = told(begin(k), begin(1), row(2, [1, 2, 3]), begin(k), MEANS, set_mean(2, 1, 1), set_mean(3, 1, 1))
            self.assertEqual(given, [[-22], [3], [0], [-22], means, [0, 3, 2], [-2]])

    def test_begin_comes_again(self):
        calls = [begin(1), row(2, [1, 2, 3]), begin(3), MEANS, row(1, [5] * 7), begin(3), MEANS, begin(1), MEANS]
        self.assertEqual(told(*calls), [[3], [0], [7], [7, 1, 1] + [0, 1] * 6, [0], [7], [7, 1, 1] + [0, 1] * 6,
                                        [3], [3, 1, 1, 0, 1, 0, 1]])
        self.assertEqual(told(begin(4), begin(2), set_mean(5, 1, 1), row(1, [1] * 9), mean([1] * 6)),
                         [[9], [5], [-2], [-22], [-22]])

    def test_begin_comes_again_for_all_that_is_held_to_k(self):
        asking = [RANK, TURNS, angle(1), angle(2), zeros(2, 0, 1, 1, 1), most(0, 1), square([1] * 3)]
        for first in ([], [begin(4), row(1, [1, 0, 1, 0, 3, 0, 15, 0, 105])], [begin(2), row(1, [-1] * 5)]):
            given = told(*first, begin(1), set_mean(2, 1, 1), *asking)[len(first) + 2:]
            self.assertEqual(given, [[2], [1, 0, 1, 0, 1], [2, 0, 1, 1, 1, 1, 1], [-2], [-2], [0, 1, 1], [-22]])

    def test_a_begin_refused_later_leaves_all_that_is_told(self):
        calls = [begin(2), row(1, [1, 1, 2, 6, 24])]
        for asked in (RANK, TURNS, angle(2), most(2, 1), take(2, 1), zeros(2, 0, 1, 9, 1), square([1, 2, 3]), PROOF):
            self.assertEqual(last(*calls, begin(5), asked), last(*calls, asked))


class HandedIn(unittest.TestCase):
    def test_the_list_is_not_changed(self):
        calls = joined(SOME_CALLS)
        before = list(calls)
        answers(calls)
        self.assertEqual(calls, before)

    def test_the_list_is_not_changed_for_a_while_either(self):
        calls = joined(SOME_CALLS)
        self.assertEqual(answers(Watched(calls)), answers(calls))

    def test_the_same_list_twice(self):
        calls = joined(SOME_CALLS)
        first = answers(calls)
        self.assertEqual(answers(calls), first)
        first.clear()
        self.assertNotEqual(answers(calls), [])

    def test_nothing_is_kept(self):
        answers(joined(SOME_CALLS))
        self.assertEqual(answers(MEANS), [1, -11])
        answers(joined([begin(1), set_mean(0, 5, 1), set_mean(2, 5, 1)]))
        self.assertEqual(answers(joined([begin(1), MEANS])), [1, 3, 7, 3, 1, 1, 0, 1, 0, 1])

    def test_whole_numbers_alone_are_given_back(self):
        given = spreadmeans.powers.answers(joined(SOME_CALLS))
        self.assertIs(type(given), list)
        self.assertEqual(set(map(type, given)), {int})


class Long(unittest.TestCase):
    def test_60_calls(self):
        calls = [begin(4)] + [put(i - 29, 1, 1, 1) for i in range(57)] + [MEANS, STRICT]
        self.assertEqual(len(calls), 60)
        sums = [sum((i - 29) ** power for i in range(57)) for power in range(9)]
        sums[0] += 1
        self.assertEqual(told(*calls), [[9]] + [[0]] * 57 + [[9] + joined([[one, 1] for one in sums]), [1]])

    def test_60_calls_with_each_call(self):
        calls = ALL_BUT_BEGIN + [call for call, expected in EACH_CALL * 2]
        expected = [[-11]] * 16 + [answer for call, answer in EACH_CALL * 2]
        self.assertEqual((len(calls), set(call[0] for call, answer in EACH_CALL)), (60, set(range(17))))
        whole = joined(calls)
        before = list(whole)
        for time in range(2):
            self.assertEqual(answers(whole), joined([[len(answer)] + answer for answer in expected]))
            self.assertEqual(whole, before)
        self.assertEqual(answers(Watched(whole)), answers(whole))

    def test_60_squares_of_70_numbers(self):
        calls = [begin(4)] + [square([1] * 70)] * 58 + [square([1] * 5)]
        self.assertEqual(told(*calls), [[9]] + [[-22]] * 58 + [[0, 1, 1]])

    def test_60_rows_of_70_numbers(self):
        calls = joined([row(HIGHEST, [LOWEST] * 70)] * 60)
        self.assertEqual(len(calls), 4380)
        self.assertEqual(answers(calls), [1, -11] * 60)

    def test_rows_of_70_numbers_behind_a_begin(self):
        calls = [begin(4), row(1, [1] * 70), mean([1] * 70)] + [row(1, list(range(70)))] * 56 + [MEANS]
        self.assertEqual(told(*calls), [[9]] + [[-22]] * 58 + [[9, 1, 1] + [0, 1] * 8])

    def test_numbers_of_a_row_are_no_calls(self):
        self.assertEqual(told(begin(1), row(1, [0, 3, 5]), mean([7, 0, 1]), square([0, 9]), MEANS),
                         [[3], [0], [0, 5, 1], [0, 405, 1], [3, 0, 1, 3, 1, 5, 1]])


if __name__ == "__main__":
    unittest.main()
