"""Promise [56]: ratios."""

import math
import random
import unittest
from fractions import Fraction

from commonground.exact.ratio import floor_of, is_less, is_whole, minus, plus, product, ratio, whole

GREAT = 10 ** 80 + 7


def told(fraction):
    return (fraction.numerator, fraction.denominator)


class RatioTest(unittest.TestCase):
    def test_lowest_terms(self):
        for top, bottom, expected in (
            (1, 2, (1, 2)), (2, 4, (1, 2)), (-2, 4, (-1, 2)), (2, -4, (-1, 2)), (-2, -4, (1, 2)), (6, 3, (2, 1)),
            (6, -3, (-2, 1)), (0, 5, (0, 1)), (0, -5, (0, 1)), (0, 1, (0, 1)), (7, 1, (7, 1)), (7, -1, (-7, 1)),
            (GREAT * 6, GREAT * 4, (3, 2)), (GREAT, -1, (-GREAT, 1)), (-1, -GREAT, (1, GREAT)),
        ):
            self.assertEqual(ratio(top, bottom), expected, (top, bottom))

    def test_equal_values_are_equal(self):
        for m in (1, -1, 3, -12, GREAT):
            self.assertEqual(ratio(10 * m, -15 * m), (-2, 3))
            self.assertEqual(ratio(0, m), (0, 1))

    def test_whole(self):
        for n in (0, 1, -1, 12, -GREAT):
            self.assertEqual(whole(n), (n, 1))

    def test_calculating(self):
        rng = random.Random(56)
        for _ in range(500):
            size = rng.choice((3, 10, GREAT))
            a = Fraction(rng.randint(-size, size), rng.randint(1, size))
            b = Fraction(rng.randint(-size, size), rng.randint(1, size))
            self.assertEqual(plus(told(a), told(b)), told(a + b))
            self.assertEqual(minus(told(a), told(b)), told(a - b))
            self.assertEqual(product(told(a), told(b)), told(a * b))
            self.assertIs(is_less(told(a), told(b)), a < b)
            self.assertIs(is_less(told(a), told(a)), False)
            self.assertIs(is_whole(told(a)), a.denominator == 1)
            self.assertEqual(floor_of(told(a)), math.floor(a))

    def test_results_are_in_lowest_terms(self):
        self.assertEqual(plus((1, 6), (1, 3)), (1, 2))
        self.assertEqual(plus((1, 2), (-1, 2)), (0, 1))
        self.assertEqual(minus((5, 6), (1, 3)), (1, 2))
        self.assertEqual(minus((5, 6), (5, 6)), (0, 1))
        self.assertEqual(product((2, 3), (-3, 2)), (-1, 1))
        self.assertEqual(product((0, 1), (-3, 2)), (0, 1))

    def test_floors(self):
        for a, floor in (
            ((7, 2), 3), ((-7, 2), -4), ((1, 3), 0), ((-1, 3), -1), ((0, 1), 0), ((4, 1), 4), ((-4, 1), -4),
            ((-GREAT, 2), -(GREAT // 2) - 1),
        ):
            self.assertEqual(floor_of(a), floor)

    def test_is_whole_and_is_less(self):
        self.assertIs(is_whole((0, 1)), True)
        self.assertIs(is_whole((-4, 1)), True)
        self.assertIs(is_whole((-4, 3)), False)
        self.assertIs(is_less((-1, 2), (-1, 3)), True)
        self.assertIs(is_less((-1, 3), (-1, 2)), False)
        self.assertIs(is_less((GREAT, GREAT + 1), (GREAT + 1, GREAT + 2)), True)


if __name__ == "__main__":
    unittest.main()
