"""minus: a number with the other sign."""

import unittest

from rootnumbers.roots import minus
from tests.helper import BIG, SAMPLES, flat, primitive, product, real_roots, square_free, with_roots


def answer(p, root):
    return [0, len(p)] + flat(*p) + [root]


class Minus(unittest.TestCase):
    def check(self, p, root, told, told_root):
        self.assertEqual(minus(root, flat(*p)), answer(told, told_root))

    def test_even_degree(self):
        self.assertEqual(minus(0, [-2, 1, 0, 1, 1, 1]), [0, 3, -2, 1, 0, 1, 1, 1, 1])
        self.check([-2, 0, 1], 1, [-2, 0, 1], 0)
        self.check([2, -3, 1], 0, [2, 3, 1], 1)
        self.check([2, -3, 1], 1, [2, 3, 1], 0)
        self.check([1, 0, -10, 0, 1], 2, [1, 0, -10, 0, 1], 1)

    def test_odd_degree(self):
        self.check([-1, 2], 0, [1, 2], 0)
        self.check([-5, 0, 0, 1], 0, [5, 0, 0, 1], 0)
        self.check([1, -3, 0, 1], 0, [-1, -3, 0, 1], 2)
        self.check([1, -3, 0, 1], 1, [-1, -3, 0, 1], 1)
        self.check([1, -3, 0, 1], 2, [-1, -3, 0, 1], 0)

    def test_zero(self):
        self.check([0, 1], 0, [0, 1], 0)
        self.check([0, 0, 0, -7], 0, [0, 1], 0)
        self.check([0, -1, 1], 0, [0, 1, 1], 1)
        self.check([0, -1, 1], 1, [0, 1, 1], 0)

    def test_more_than_once(self):
        self.check(with_roots(1, 1, 1), 0, [1, 1], 0)
        self.check(with_roots(1, 1, 2, 2, 2, 3), 2, [6, 11, 6, 1], 0)
        self.check(product([-2, 0, 1], [-2, 0, 1], [-1, 1], [1, 1, 1]), 2, product([-2, 0, 1], [1, 1], [1, -1, 1]), 0)

    def test_broken_and_leads_below_zero(self):
        self.check(["1/2", "1/3"], 0, [-3, 2], 0)
        self.check(["2/3", "-1/2", "-1/6"], 1, [-4, -3, 1], 0)
        self.check([4, 0, 0, "-1/2"], 0, [8, 0, 0, 1], 0)

    def test_degree_eight(self):
        # The one call of its kind without a bound of degree: also where twice the degree is 16.
        p = with_roots(-4, -3, -2, -1, 1, 2, 3, 5)
        self.assertEqual(minus(7, flat(*p))[-1], 0)
        self.check([1, 0, -32, 0, 160, 0, -256, 0, 128], 7, [1, 0, -32, 0, 160, 0, -256, 0, 128], 0)

    def test_minus_of_minus(self):
        for p in SAMPLES[1:] + [[1, -3, 0, 1], with_roots(1, 1, 2), [0, "1/2", 0, "-1/3"]]:
            base = square_free(p)
            size = len(real_roots(base))
            for root in range(size):
                there = minus(root, flat(*p))
                turned = primitive([a * (-1) ** k for k, a in enumerate(base)])
                self.assertEqual(there, answer(turned, size - 1 - root))
                if max(abs(number) for number in there) <= BIG:
                    self.assertEqual(minus(there[-1], there[2:-1]), answer(base, root))

    def test_no_number(self):
        for root, p in ((2, [-2, 0, 1]), (0, []), (1000, []), (0, [1, 0, 1]), (0, [7]), (1, with_roots(1, 1)),
                        (1000, [0, 1])):
            self.assertEqual(minus(root, flat(*p)), [9, 3, 0])

    def test_one_ahead_of_three(self):
        self.assertEqual(minus(1001, []), [9, 1])
        self.assertEqual(minus(1001, flat(1, 0, 1)), [9, 1])
        self.assertEqual(minus(5, [1, 1, 0, 1]), [9, 1])


if __name__ == "__main__":
    unittest.main()
