"""The exact quotients by themselves."""

import unittest
from fractions import Fraction
from math import gcd

from stagefades.quotients import between, common_divisor, side_of


class QuotientTest(unittest.TestCase):
    def test_common_divisor(self):
        for one in range(30):
            for other in range(30):
                self.assertEqual(common_divisor(one, other), gcd(one, other))

    def test_side_of(self):
        self.assertEqual([side_of((1, 3), 1), side_of((0, 1), 1), side_of((299, 3), 100)], [-1, -1, -1])
        self.assertEqual([side_of((0, 1), 0), side_of((1, 1), 1), side_of((100, 1), 100)], [0, 0, 0])
        self.assertEqual([side_of((1, 3), 0), side_of((4, 3), 1), side_of((100, 1), 99)], [1, 1, 1])

    def test_between_is_exact_and_in_lowest_terms(self):
        starts = sorted({Fraction(upper, lower) for upper in range(0, 40, 3) for lower in (1, 2, 3, 4, 6, 9, 12, 36)})
        for start in starts:
            for level in (0, 1, 2, 6, 9, 12, 36, 100):
                for whole in (1, 2, 3, 4, 6, 9, 12, 13):
                    for part in range(whole):
                        wanted = start + (level - start) * Fraction(part, whole)
                        found = between((start.numerator, start.denominator), level, part, whole)
                        self.assertEqual(found, (wanted.numerator, wanted.denominator))


if __name__ == "__main__":
    unittest.main()
