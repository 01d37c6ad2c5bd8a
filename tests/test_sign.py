"""sign: whether a polynomial is below 0, 0 or above 0 at a number."""

import unittest
from fractions import Fraction

from rootnumbers.roots import sign
from tests.helper import BIG, SAMPLES, common, flat, product, real_roots, sign_at, square_free, with_roots

BELOW, ZERO, ABOVE = range(3)
TWO = [-2, 0, 1]
NEAR = [-1, 1998, -999 ** 2, 0, 0, 0, 0, 0, 1]


class Sign(unittest.TestCase):
    def check(self, p, x, expected):
        self.assertEqual(sign(x[1], flat(*p), flat(*x[0])), [0, expected])
        if p:
            self.assertEqual(sign(x[1], flat(*product(p, [-1])), flat(*x[0])), [0, 2 - expected])

    def test_example(self):
        self.assertEqual(sign(0, [-1, 1, 1, 1], [-2, 1, 0, 1, 1, 1]), [0, 0])

    def test_a_root(self):
        self.check(TWO, (TWO, 1), ZERO)
        self.check([4, 0, -2], (TWO, 0), ZERO)
        self.check(product(TWO, [-3, 1]), (TWO, 0), ZERO)
        self.check(product(TWO, TWO, ["1/2", "1/3"]), (TWO, 1), ZERO)
        self.check(product(TWO, TWO, TWO), (product(TWO, [-3, 0, 1]), 1), ZERO)
        self.check([0, 1], ([0, 0, 1], 0), ZERO)
        self.check([-1, 3], (with_roots("1/3", "1/3", 5), 0), ZERO)
        # A common root, but not this one.
        self.check(TWO, (product(TWO, [-3, 0, 1]), 3), ABOVE)
        self.check([-1, 1], (with_roots(1, 2), 1), ABOVE)
        self.check([-2, 1], (with_roots(1, 2), 0), BELOW)

    def test_touching_zero(self):
        self.check(with_roots(1, 1), (TWO, 1), ABOVE)
        self.check(product(TWO, TWO), ([-1, 1], 0), ABOVE)
        self.check(product(TWO, TWO, [-1]), ([0, 1], 0), BELOW)
        self.check(with_roots("1/3", "1/3"), ([-1, 3], 0), ZERO)

    def test_of_zero(self):
        for x in ((TWO, 0), (TWO, 1), ([0, 1], 0), (with_roots(1, 1, 1), 0)):
            self.check([], x, ZERO)

    def test_of_constants(self):
        for x in ((TWO, 0), (TWO, 1), ([0, 1], 0), (with_roots(1, 1, 1), 0)):
            self.check([1], x, ABOVE)
            self.check(["-2/3"], x, BELOW)
            self.check([f"1/{BIG}"], x, ABOVE)

    def test_below_and_above(self):
        self.check([-1, 1], (TWO, 1), ABOVE)
        self.check([-1, 1], (TWO, 0), BELOW)
        self.check([0, 1], ([0, 0, 1], 0), ZERO)
        self.check([1, -3, 2], ([-3, 4], 0), BELOW)
        self.check([5, 0, 0, -1], ([-2, 0, 0, 1], 0), ABOVE)
        self.check([1, 0, 1], (TWO, 0), ABOVE)
        # At a number that is an exact place, both in and beside the part that is looked at first.
        self.check([-1, 16], ([-1, 8], 0), ABOVE)
        self.check([-1, 8], ([-1, 16], 0), BELOW)
        self.check([-3, 16], ([-1, 8], 0), BELOW)

    def test_broken_and_leads_below_zero(self):
        self.check(["1/2", "-1/3"], (TWO, 1), ABOVE)
        self.check(["3/7", "-1/3"], (TWO, 1), BELOW)
        self.check(["1/9", "2/3", "-5/6"], (["1/2", "-1/3"], 0), BELOW)
        self.check(["-1/4", 0, "1/8"], (["1/2", 0, "-1/4"], 1), ZERO)

    def test_very_near(self):
        self.check([-577, 408], (TWO, 1), BELOW)
        self.check([-1393, 985], (TWO, 1), ABOVE)
        self.check([-665857, 470832], (TWO, 1), BELOW)
        self.check([-941664, 665857], (TWO, 1), ABOVE)
        self.check([-1, 999], (NEAR, 1), BELOW)
        self.check([-1, 999], (NEAR, 2), ABOVE)
        self.check(NEAR, ([-1, 999], 0), ABOVE)
        self.check(NEAR[:8] + [f"1/{BIG}"], (NEAR, 1), BELOW)
        self.check(NEAR, (NEAR[:8] + [f"1/{BIG}"], 1), ABOVE)
        self.check(NEAR, (NEAR, 1), ZERO)
        self.check(NEAR, (NEAR, 2), ZERO)

    def test_all_samples(self):
        for x in SAMPLES[1:]:
            for k, place in enumerate(real_roots(square_free(x))):
                for p in SAMPLES[1:]:
                    shared = place in real_roots(common(p, x))
                    expected = ZERO if shared else 1 + sign_at([Fraction(a) for a in p], place)
                    self.assertEqual(sign(k, flat(*p), flat(*x)), [0, expected], (p, x, k))

    def test_no_number(self):
        for p in (TWO, [], [1]):
            for which, x in ((2, TWO), (1000, TWO), (0, []), (0, [1, 0, 1]), (0, [5]), (1, with_roots(1, 1))):
                self.assertEqual(sign(which, flat(*p), flat(*x)), [9, 3, 0])

    def test_one_ahead_of_three(self):
        self.assertEqual(sign(1001, [], []), [9, 1])
        self.assertEqual(sign(5, [0, 1], flat(*TWO)), [9, 1])
        self.assertEqual(sign(5, flat(*TWO), [0, 1]), [9, 1])


if __name__ == "__main__":
    unittest.main()
