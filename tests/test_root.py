"""root: the square root of a number that is not below 0."""

import unittest

from rootnumbers.roots import root
from tests.helper import BIG, SAMPLES, flat, product, real_roots, square_free, with_roots


def answer(p, which):
    return [0, len(p)] + flat(*p) + [which]


def spread(p):
    """p(z^2)."""
    return [a for each in p for a in (each, 0)][:-1]


class Root(unittest.TestCase):
    def check(self, p, which, told, told_which):
        self.assertEqual(root(which, flat(*p)), answer(told, told_which))

    def test_example(self):
        self.assertEqual(root(1, [-4, 1, 0, 1, 1, 1]), [0, 5, -4, 1, 0, 1, 0, 1, 0, 1, 1, 1, 1])

    def test_of_zero(self):
        self.check([0, 1], 0, [0, 1], 0)
        self.check([0, 0, 0, "-2/3"], 0, [0, 1], 0)
        self.check([0] * 8 + [5], 0, [0, 1], 0)
        self.check([0, -1, 1], 0, [0, -1, 0, 1], 1)
        self.check([0, 0, -1, 1], 0, [0, -1, 0, 1], 1)
        self.check([0, 1, 1], 1, [0, 1, 0, 1], 0)
        self.check([0, -1, 0, 1], 1, [0, -1, 0, 0, 0, 1], 1)
        self.check(with_roots(0, 0, 1, 2, 2), 0, [0, 2, 0, -3, 0, 1], 2)

    def test_zero_beside_it(self):
        self.check([0, -2, 1], 1, [0, -2, 0, 1], 2)
        self.check([0, 0, 0, -2, 1], 1, [0, -2, 0, 1], 2)
        self.check(with_roots(0, 0, 1, 2, 2), 1, [0, 2, 0, -3, 0, 1], 3)
        self.check(with_roots(0, 0, 1, 2, 2), 2, [0, 2, 0, -3, 0, 1], 4)

    def test_some_below_and_some_above(self):
        p = with_roots(-3, -1, 2, 5)
        self.assertEqual(root(0, flat(*p)), [9, 2])
        self.assertEqual(root(1, flat(*p)), [9, 2])
        self.check(p, 2, spread(p), 2)
        self.check(p, 3, spread(p), 3)
        self.check([-2, 0, 1], 1, [-2, 0, 0, 0, 1], 1)
        self.check([1, -3, 0, 1], 1, [1, 0, -3, 0, 0, 0, 1], 2)
        self.check([1, -3, 0, 1], 2, [1, 0, -3, 0, 0, 0, 1], 3)

    def test_fractions_that_are_squares(self):
        self.check([-4, 9], 0, [-4, 0, 9], 1)
        self.check([-1, 1], 0, [-1, 0, 1], 1)
        self.check(["-25/36", 1], 0, [-25, 0, 36], 1)
        self.check([-2, 1], 0, [-2, 0, 1], 1)
        self.check(with_roots(4, "1/9"), 0, [4, 0, -37, 0, 9], 2)
        self.check(with_roots(4, "1/9"), 1, [4, 0, -37, 0, 9], 3)

    def test_more_than_once_broken_and_below_zero(self):
        self.check(with_roots(3, 3, 3), 0, [-3, 0, 1], 1)
        self.check(product([-2, 0, 1], [-2, 0, 1], ["-5/7"]), 1, [-2, 0, 0, 0, 1], 1)
        self.check(["1/2", "-1/3"], 0, [-3, 0, 2], 1)
        self.check(["-1/2", "1/3", "1/6"], 1, [-3, 0, 2, 0, 1], 1)

    def test_below_zero(self):
        for which, p in ((0, [1, 1]), (0, [-2, 0, 1]), (0, [0, 1, 1]), (0, [1, BIG]), (0, with_roots(-1, -1)),
                         (0, [2, 0, 0, 1]), (3, [1, 0, -32, 0, 160, 0, -256, 0, 128])):
            self.assertEqual(root(which, flat(*p)), [9, 2])

    def test_degree_eight(self):
        # Twice the degree is 16, the greatest there is: more than 9 coefficients are refused 1 already.
        p = [1, 0, -32, 0, 160, 0, -256, 0, 128]
        for which in range(8):
            self.assertEqual(root(which, flat(*p)), answer(spread(p), which) if which > 3 else [9, 2])
        self.check([-7] + [0] * 7 + [1], 1, [-7] + [0] * 15 + [1], 1)
        p = [1, 0, 0, 0, 0, 0, 0, 0, 0, -1]
        self.assertEqual(root(0, flat(*p)), [9, 1])
        # The square-free part's degree counts.
        self.check(product([-2, 0, 1], [-2, 0, 1], [-2, 0, 1], [-2, 0, 1]), 1, [-2, 0, 0, 0, 1], 1)

    def test_all_samples(self):
        for p in SAMPLES[1:]:
            base = square_free(p)
            places = real_roots(base)
            told = square_free(spread(base))
            squares = [place * abs(place) for place in real_roots(told)]
            for which, place in enumerate(places):
                if place < 0:
                    self.assertEqual(root(which, flat(*p)), [9, 2])
                else:
                    nearest = min(range(len(squares)), key=lambda k: abs(squares[k] - place))
                    self.assertEqual(root(which, flat(*p)), answer(told, nearest))
            self.assertEqual(root(len(places), flat(*p)), [9, 3, 0])

    def test_no_number(self):
        for which, p in ((2, [-2, 0, 1]), (0, []), (1000, []), (0, [1, 0, 1]), (0, [7]), (1, with_roots(1, 1))):
            self.assertEqual(root(which, flat(*p)), [9, 3, 0])

    def test_one_ahead_of_all(self):
        self.assertEqual(root(1001, []), [9, 1])
        self.assertEqual(root(1001, flat(1, 1)), [9, 1])
        self.assertEqual(root(0, [1, 1, 2, 2]), [9, 1])
        self.assertEqual(root(3, [1, 1, 0, 1]), [9, 1])


if __name__ == "__main__":
    unittest.main()
