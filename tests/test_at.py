"""at: the value of a polynomial at a fraction."""

import unittest
from fractions import Fraction

from rootnumbers.roots import at
from tests.helper import BIG, SAMPLES, flat

PLACES = ["0", "1", "-1", "7", "-12", "1/2", "-2/3", "999999", "-999999", "1/999999", "-999998/999999"]


class At(unittest.TestCase):
    def test_at_zero(self):
        self.assertEqual(at(0, 1, flat(5, 2, 3)), [0, 5, 1])
        self.assertEqual(at(0, 1, flat("-2/7", 2, 3)), [0, -2, 7])
        self.assertEqual(at(0, 1, flat(0, 2)), [0, 0, 1])

    def test_at_whole(self):
        self.assertEqual(at(3, 1, flat(-2, 0, 1)), [0, 7, 1])
        self.assertEqual(at(-3, 1, flat(1, 2, 0, 1)), [0, -32, 1])
        self.assertEqual(at(2, 1, flat("1/2", "1/4")), [0, 1, 1])
        self.assertEqual(at(-1, 1, flat("1/2", "1/3")), [0, 1, 6])

    def test_at_broken(self):
        self.assertEqual(at(1, 2, flat(1, -3, 2)), [0, 0, 1])
        self.assertEqual(at(-2, 3, flat(1, 1, 1)), [0, 7, 9])
        self.assertEqual(at(3, 4, flat("1/2", "2/3", "-8/9")), [0, 1, 2])

    def test_zero_and_constants(self):
        for place in PLACES:
            fraction = Fraction(place)
            self.assertEqual(at(fraction.numerator, fraction.denominator, []), [0, 0, 1])
            self.assertEqual(at(fraction.numerator, fraction.denominator, flat("-3/4")), [0, -3, 4])

    def test_all_samples(self):
        for p in SAMPLES:
            for place in PLACES:
                fraction = Fraction(place)
                value = sum([Fraction(a) * fraction ** k for k, a in enumerate(p)], Fraction(0))
                answer = at(fraction.numerator, fraction.denominator, flat(*p))
                self.assertEqual(answer, [0, value.numerator, value.denominator])
                self.assertTrue(all(type(number) is int for number in answer))

    def test_far_above_a_million(self):
        p = [0, 1] * 8 + [BIG, 1]
        self.assertEqual(at(BIG, 1, p), [0, BIG ** 9, 1])
        self.assertEqual(at(-1, BIG, [0, 1] * 8 + [1, BIG]), [0, 1, BIG ** 9])
        self.assertEqual(at(999998, BIG, p), [0, 999998 ** 8, BIG ** 7])


if __name__ == "__main__":
    unittest.main()
