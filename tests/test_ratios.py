"""Fractions by themselves."""

import unittest
from fractions import Fraction

from spreadmeans.ratios import divided, fraction, is_less, less, plus, times


class Ratios(unittest.TestCase):
    def test_the_lower_number_is_1_or_more(self):
        self.assertEqual(fraction(3, -6), (-1, 2))
        self.assertEqual(fraction(-3, -1), (3, 1))
        self.assertEqual(fraction(0, -5), (0, 1))

    def test_against_pythons_own(self):
        values = [Fraction(upper, lower) for upper in range(-4, 5) for lower in range(1, 5)]
        for x in values:
            for y in values:
                first, second = x.as_integer_ratio(), y.as_integer_ratio()
                self.assertEqual(plus(first, second), (x + y).as_integer_ratio())
                self.assertEqual(less(first, second), (x - y).as_integer_ratio())
                self.assertEqual(times(first, second), (x * y).as_integer_ratio())
                self.assertEqual(is_less(first, second), x < y)
                if y != 0:
                    self.assertEqual(divided(first, second), (x / y).as_integer_ratio())


if __name__ == "__main__":
    unittest.main()
