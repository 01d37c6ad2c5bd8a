"""digits: the floor of a number times a power of two."""

import unittest
from fractions import Fraction
from math import floor, isqrt

from rootnumbers.roots import digits
from tests.helper import BIG, SAMPLES, flat, product, real_roots, sign_at, square_free, with_roots

TWO = [-2, 0, 1]
NEAR = [-1, 1998, -999 ** 2, 0, 0, 0, 0, 0, 1]


class Digits(unittest.TestCase):
    def check(self, p, which, bits, expected):
        self.assertEqual(digits(which, bits, flat(*p)), [0, expected])

    def test_example(self):
        self.assertEqual(digits(1, 8, [-2, 1, 0, 1, 1, 1]), [0, 362])

    def test_no_bits(self):
        self.check(TWO, 1, 0, 1)
        self.check(TWO, 0, 0, -2)
        self.check([-7, 2], 0, 0, 3)
        self.check([7, 2], 0, 0, -4)
        self.check([-1, 3], 0, 0, 0)
        self.check([1, 3], 0, 0, -1)

    def test_every_number_of_bits(self):
        for bits in range(257):
            self.check(TWO, 1, bits, isqrt(2 * 4 ** bits))
            self.check(TWO, 0, bits, -isqrt(2 * 4 ** bits) - 1)

    def test_most_bits(self):
        self.check([-3, 0, 1], 1, 256, isqrt(3 * 4 ** 256))
        self.check([-1, 3], 0, 256, 2 ** 256 // 3)
        self.check([1, 3], 0, 256, -(2 ** 256) // 3)
        self.check([-5, 1], 0, 256, 5 * 2 ** 256)
        self.check([0, 1], 0, 256, 0)
        self.assertEqual(digits(0, 257, flat(0, 1)), [9, 1])

    def test_below_zero(self):
        self.check([1, 1], 0, 3, -8)
        self.check([1, 3], 0, 1, -1)
        self.check([1, 3], 0, 2, -2)
        self.check([5, 3], 0, 4, -27)
        self.check([1, BIG], 0, 8, -1)
        self.check([5, 0, 0, 1], 0, 0, -2)

    def test_whole_and_not(self):
        self.check([-3, 4], 0, 2, 3)
        self.check([-3, 4], 0, 1, 1)
        self.check([-3, 4], 0, 0, 0)
        self.check([3, 4], 0, 2, -3)
        self.check([3, 4], 0, 1, -2)
        self.check([-1, 524288], 0, 19, 1)
        self.check([-1, 524288], 0, 18, 0)
        self.check([1, 524288], 0, 18, -1)
        self.check([-7, 1], 0, 0, 7)
        self.check([7, 1], 0, 0, -7)

    def test_more_than_once(self):
        self.check(with_roots("1/3", "1/3", 2, 2, 2), 0, 8, 85)
        self.check(with_roots("1/3", "1/3", 2, 2, 2), 1, 8, 512)
        self.check(product(TWO, TWO, TWO), 1, 100, isqrt(2 * 4 ** 100))
        self.check([0] * 8 + [-3], 0, 77, 0)

    def test_very_near(self):
        for bits in (0, 10, 40, 60, 256):
            for which, place in enumerate(real_roots(NEAR, 300)):
                self.check(NEAR, which, bits, floor(place * 2 ** bits))
        self.assertEqual(digits(1, 40, flat(*NEAR)), digits(2, 40, flat(*NEAR)))
        self.assertNotEqual(digits(1, 50, flat(*NEAR)), digits(2, 50, flat(*NEAR)))
        near = with_roots("700/699", "699/698")
        self.check(near, 0, 200, 700 * 2 ** 200 // 699)
        self.check(near, 1, 200, 699 * 2 ** 200 // 698)

    def test_great_ones(self):
        self.check([-BIG, f"1/{BIG}"], 0, 0, BIG ** 2)
        self.check([BIG, f"1/{BIG}"], 0, 5, -32 * BIG ** 2)
        self.check([-999997, "3/999998"], 0, 1, 2 * 999997 * 999998 // 3)
        self.check([-1, BIG], 0, 256, 2 ** 256 // BIG)

    def test_all_samples(self):
        for p in SAMPLES[1:]:
            base = square_free(p)
            for which in range(len(real_roots(base))):
                for bits in (0, 1, 17, 256):
                    answer = digits(which, bits, flat(*p))
                    self.assertEqual(answer[0], 0)
                    low, high = Fraction(answer[1], 2 ** bits), Fraction(answer[1] + 1, 2 ** bits)
                    if bits == 256:
                        self.assertTrue(sign_at(base, low) == 0 or sign_at(base, low) * sign_at(base, high) < 0)
                    self.assertEqual(answer[1], floor(real_roots(base, 300)[which] * 2 ** bits))

    def test_no_number(self):
        for which, p in ((2, TWO), (1000, TWO), (0, []), (0, [1, 0, 1]), (0, [7]), (1, with_roots(1, 1))):
            self.assertEqual(digits(which, 8, flat(*p)), [9, 3, 0])
            self.assertEqual(digits(which, 256, flat(*p)), [9, 3, 0])

    def test_one_ahead_of_three(self):
        self.assertEqual(digits(1001, 0, []), [9, 1])
        self.assertEqual(digits(0, 257, []), [9, 1])
        self.assertEqual(digits(2, 257, flat(*TWO)), [9, 1])
        self.assertEqual(digits(5, 0, [1, 1, 0, 1]), [9, 1])


if __name__ == "__main__":
    unittest.main()
