"""fraction: a number that is one, as a fraction."""

import unittest

from rootnumbers.roots import fraction
from tests.helper import BIG, SAMPLES, flat, product, real_roots, square_free, value, with_roots

TWO = [-2, 0, 1]
NEAR = [-1, 1998, -999 ** 2, 0, 0, 0, 0, 0, 1]


class FractionOf(unittest.TestCase):
    def check(self, p, which, top, bottom):
        self.assertEqual(fraction(which, flat(*p)), [0, top, bottom])

    def none(self, p, which):
        self.assertEqual(fraction(which, flat(*p)), [9, 5])

    def test_examples(self):
        self.assertEqual(fraction(1, [-4, 1, 0, 1, 1, 1]), [0, 2, 1])
        self.assertEqual(fraction(1, [-2, 1, 0, 1, 1, 1]), [9, 5])

    def test_zero(self):
        self.check([0, 1], 0, 0, 1)
        self.check([0, 0, 0, "-5/9"], 0, 0, 1)
        self.check([0, -2, 0, 1], 1, 0, 1)

    def test_below_zero(self):
        self.check([5, 1], 0, -5, 1)
        self.check([-4, 0, 1], 0, -2, 1)
        self.check([2, 3], 0, -2, 3)
        self.check([6, 4], 0, -3, 2)
        self.check(["1/2", "1/3"], 0, -3, 2)

    def test_beside_roots_that_are_none(self):
        p = product(TWO, [-2, 3], [5, 7])
        self.none(p, 0)
        self.check(p, 1, -5, 7)
        self.check(p, 2, 2, 3)
        self.none(p, 3)
        p = product([1, -3, 0, 1], [0, 1])
        self.none(p, 0)
        self.check(p, 1, 0, 1)
        # In one whole part with 0, just above it.
        self.none(p, 2)
        self.none(p, 3)
        p = product([-1, 3], [-1, 0, 10], [-5, 16])
        self.none(p, 0)
        self.check(p, 1, 5, 16)
        self.none(p, 2)
        self.check(p, 3, 1, 3)

    def test_more_than_once(self):
        self.check(with_roots("1/3", "1/3", "5/7", "5/7", "5/7"), 0, 1, 3)
        self.check(with_roots("1/3", "1/3", "5/7", "5/7", "5/7"), 1, 5, 7)
        self.none(product(TWO, TWO, TWO, TWO), 1)
        self.check(with_roots(*[-1] * 8), 0, -1, 1)

    def test_lowest_terms(self):
        self.check(with_roots("1/2", "1/3", "1/6"), 0, 1, 6)
        self.check(with_roots("1/2", "1/3", "1/6"), 1, 1, 3)
        self.check(with_roots("1/2", "1/3", "1/6"), 2, 1, 2)
        self.check([-30, 42], 0, 5, 7)

    def test_great_ones(self):
        self.check([-BIG, f"1/{BIG}"], 0, BIG ** 2, 1)
        self.check([BIG, "999998/999997"], 0, -BIG * 999997, 999998)
        self.check([f"1/{BIG}", BIG], 0, -1, BIG ** 2)
        self.check(["999998/999997", "-999983/999979"], 0, 999998 * 999979, 999997 * 999983)

    def test_near_to_a_fraction(self):
        self.none(NEAR, 1)
        self.none(NEAR, 2)
        self.none([-BIG, 0, 1], 1)
        self.none([-998002, 0, 1], 1)
        self.check([-998001, 0, 1], 1, 999, 1)
        self.none([-998000, 0, 1], 1)
        self.none(product(["-998000/998001", 0, 1], [-1, 1]), 1)
        self.check(product(["-998000/998001", 0, 1], [-1, 1]), 2, 1, 1)
        self.none([f"-1/{BIG}", -BIG, 0, 1], 1)

    def test_all_samples(self):
        for p in SAMPLES[1:]:
            base = square_free(p)
            for which, place in enumerate(real_roots(base)):
                answer = fraction(which, flat(*p))
                near = place.limit_denominator(10 ** 15)
                if value(base, near) == 0:
                    self.assertEqual(answer, [0, near.numerator, near.denominator])
                else:
                    self.assertEqual(answer, [9, 5])

    def test_no_number(self):
        for which, p in ((2, TWO), (1000, TWO), (0, []), (0, [1, 0, 1]), (0, [7]), (1, with_roots(1, 1))):
            self.assertEqual(fraction(which, flat(*p)), [9, 3, 0])

    def test_one_ahead_of_three(self):
        self.assertEqual(fraction(1001, []), [9, 1])
        self.assertEqual(fraction(1001, flat(*TWO)), [9, 1])
        self.assertEqual(fraction(5, [1, 1, 0, 1]), [9, 1])


if __name__ == "__main__":
    unittest.main()
