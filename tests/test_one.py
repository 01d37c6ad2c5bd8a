"""one: the derivative, the part and the square-free part."""

import unittest
from fractions import Fraction
from math import gcd

from rootnumbers.roots import one
from tests.helper import BIG, SAMPLES, flat, product, read, told, with_roots

DERIVATIVE, PART, SQUARE_FREE = range(3)


class Derivative(unittest.TestCase):
    def test_of_zero_and_constants(self):
        self.assertEqual(one(DERIVATIVE, []), [0, 0])
        self.assertEqual(one(DERIVATIVE, flat(7)), [0, 0])
        self.assertEqual(one(DERIVATIVE, flat("-2/3")), [0, 0])

    def test_whole_and_broken(self):
        self.assertEqual(one(DERIVATIVE, flat(5, -3, 0, 2)), told(-3, 0, 6))
        self.assertEqual(one(DERIVATIVE, flat(1, "1/2", "1/2", "-5/9")), told("1/2", 1, "-5/3"))
        self.assertEqual(one(DERIVATIVE, flat(0, 1)), told(1))

    def test_all_samples(self):
        for p in SAMPLES:
            expected = [k * Fraction(a) for k, a in enumerate(p)][1:]
            self.assertEqual(read(one(DERIVATIVE, flat(*p))), expected)

    def test_above_a_million(self):
        self.assertEqual(one(DERIVATIVE, [0, 1] * 8 + [BIG, 1]), [0, 8] + [0, 1] * 7 + [7999992, 1])


class Part(unittest.TestCase):
    def test_lead_below_zero(self):
        self.assertEqual(one(PART, flat(4, 0, -6)), told(-2, 0, 3))
        self.assertEqual(one(PART, flat(-4, 2, -6)), told(2, -1, 3))

    def test_broken(self):
        self.assertEqual(one(PART, flat("1/2", "1/3")), told(3, 2))
        self.assertEqual(one(PART, flat("4/3", 0, "-2/5")), told(-10, 0, 3))
        self.assertEqual(one(PART, flat("6/5", "9/10", "3/4")), told(8, 6, 5))

    def test_whole(self):
        self.assertEqual(one(PART, flat(-4, 0, 4)), told(-1, 0, 1))
        self.assertEqual(one(PART, flat(6, 10, 15)), told(6, 10, 15))
        self.assertEqual(one(PART, flat(0, 0, 12)), told(0, 0, 1))

    def test_constants(self):
        for constant in (1, -1, 12, "-3/7", "999999/999998"):
            self.assertEqual(one(PART, flat(constant)), told(1))

    def test_of_zero(self):
        self.assertEqual(one(PART, []), [9, 2])

    def test_all_samples(self):
        for p in SAMPLES[1:]:
            answer = read(one(PART, flat(*p)))
            self.assertTrue(all(a.denominator == 1 for a in answer))
            self.assertEqual(gcd(*[a.numerator for a in answer]), 1)
            self.assertGreater(answer[-1], 0)
            scale = Fraction(p[-1]) / answer[-1]
            self.assertEqual([scale * a for a in answer], [Fraction(a) for a in p])

    def test_far_above_a_million(self):
        a, b, c = 999999, 999998, 999997
        self.assertEqual(one(PART, [1, a, 1, b, -1, c]), told(-b * c, -a * c, a * b))


class SquareFreePart(unittest.TestCase):
    def test_constants(self):
        for constant in (1, -1, 12, "-3/7", "999999/999998"):
            self.assertEqual(one(SQUARE_FREE, flat(constant)), told(1))

    def test_of_zero(self):
        self.assertEqual(one(SQUARE_FREE, []), [9, 2])

    def test_square_free_already(self):
        self.assertEqual(one(SQUARE_FREE, flat(-2, 0, 1)), told(-2, 0, 1))
        self.assertEqual(one(SQUARE_FREE, flat(4, 0, -6)), told(-2, 0, 3))
        self.assertEqual(one(SQUARE_FREE, flat("1/2", "1/3")), told(3, 2))
        self.assertEqual(one(SQUARE_FREE, flat(1, 1, 1, 1, 1, 1, 1, 1, 1)), told(1, 1, 1, 1, 1, 1, 1, 1, 1))

    def test_roots_that_stand_more_than_once(self):
        self.assertEqual(one(SQUARE_FREE, flat(-1, 3, -3, 1)), told(-1, 1))
        self.assertEqual(one(SQUARE_FREE, flat(0, 0, 0, 0, 0, 0, 0, 0, -6)), told(0, 1))
        cases = [
            ([1, 1], [-1, 1]),
            ([1, 1, 2], [2, -3, 1]),
            ([1, 1, 1, -2, -2, 0], [0, -2, 1, 1]),
            (["1/2", "1/2", "-1/3"], [-1, -1, 6]),
            (["2/3"] * 5, [-2, 3]),
        ]
        for roots, expected in cases:
            for scale in (1, -5, Fraction(-2, 3), Fraction(7, 4)):
                p = flat(*product(with_roots(*roots), [scale]))
                self.assertEqual(one(SQUARE_FREE, p), told(*expected))

    def test_roots_that_are_no_fractions(self):
        p = product([-2, 0, 1], [-2, 0, 1], [-2, 0, 1], [1, 1, 1])
        self.assertEqual(read(one(SQUARE_FREE, flat(*p))), product([-2, 0, 1], [1, 1, 1]))
        p = product([1, 0, 1], [1, 0, 1], [-1, "3/2"], [-1, "3/2"])
        self.assertEqual(read(one(SQUARE_FREE, flat(*p))), product([1, 0, 1], [-2, 3]))

    def test_far_above_a_million(self):
        a, b, c = 999999, 999998, 999997
        self.assertEqual(one(SQUARE_FREE, [1, a, 1, b, -1, c]), told(-b * c, -a * c, a * b))
        self.assertEqual(one(SQUARE_FREE, flat(*SAMPLES[-1])), one(PART, flat(*SAMPLES[-1])))


if __name__ == "__main__":
    unittest.main()
