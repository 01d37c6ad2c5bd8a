"""reckon: sums, differences, products and quotients of numbers that are roots."""

import unittest
from fractions import Fraction

from rootnumbers.roots import reckon
from tests.helper import BIG, flat, is_primitive, is_square_free, joined, product, read, real_roots, square_free
from tests.helper import with_roots

SUM, DIFFERENCE, PRODUCT, QUOTIENT = range(4)
TWO = [-2, 0, 1]
THREE = [-3, 0, 1]


def answer(p, root):
    return [0, len(p)] + flat(*p) + [root]


def applied(op, a, b):
    return (a + b, a - b, a * b, a / b if b else None)[op]


class Reckon(unittest.TestCase):
    def check(self, op, x, y, p, root):
        """x and y are pairs of a polynomial and a root's number."""
        self.assertEqual(reckon(op, x[1], y[1], flat(*x[0]), flat(*y[0])), answer(p, root))

    def check_by_floors(self, op, x, y):
        """Against the polynomial by power sums, and the root's number by where the roots lie."""
        told = reckon(op, x[1], y[1], flat(*x[0]), flat(*y[0]))
        p = read(told[:-1])
        self.assertEqual(p, joined(op, x[0], y[0]))
        near = applied(op, real_roots(square_free(x[0]))[x[1]], real_roots(square_free(y[0]))[y[1]])
        roots = real_roots(p, 90)
        nearest = min(range(len(roots)), key=lambda k: abs(roots[k] - near))
        self.assertLess(abs(roots[nearest] - near), Fraction(1, 2 ** 70))
        self.assertEqual(told[-1], nearest)

    def test_examples(self):
        self.assertEqual(reckon(0, 1, 1, flat(*TWO), flat(*THREE)), [0, 5, 1, 1, 0, 1, -10, 1, 0, 1, 1, 1, 3])
        self.assertEqual(reckon(2, 1, 1, flat(*TWO), flat(*TWO)), [0, 3, -4, 1, 0, 1, 1, 1, 1])
        self.assertEqual(reckon(1, 1, 1, flat(*TWO), flat(*TWO)), [0, 4, 0, 1, -8, 1, 0, 1, 1, 1, 1])
        self.assertEqual(reckon(0, 2, 0, flat(*TWO), flat(*TWO)), [9, 3, 0])

    def test_which_root(self):
        fourth = [1, 0, -10, 0, 1]
        for left in (0, 1):
            for right in (0, 1):
                # -sqrt 2 - sqrt 3, sqrt 2 - sqrt 3, -sqrt 2 + sqrt 3, sqrt 2 + sqrt 3
                self.check(SUM, (TWO, left), (THREE, right), fourth, left + 2 * right)
                self.check(SUM, (THREE, right), (TWO, left), fourth, left + 2 * right)
                self.check(DIFFERENCE, (TWO, left), (THREE, right), fourth, left + 2 * (1 - right))
                self.check(PRODUCT, (TWO, left), (THREE, right), [-6, 0, 1], 1 if left == right else 0)
                self.check(QUOTIENT, (TWO, left), (THREE, right), [-2, 0, 3], 1 if left == right else 0)

    def test_fractions(self):
        half, third = ([-1, 2], 0), ([-1, 3], 0)
        self.check(SUM, half, third, [-5, 6], 0)
        self.check(DIFFERENCE, half, third, [-1, 6], 0)
        self.check(DIFFERENCE, third, half, [1, 6], 0)
        self.check(PRODUCT, half, third, [-1, 6], 0)
        self.check(QUOTIENT, half, third, [-3, 2], 0)
        self.check(QUOTIENT, third, half, [-2, 3], 0)
        self.check(PRODUCT, (["2/3", "-5/7"], 0), ([4, "1/2"], 0), [112, 15], 0)
        self.check(QUOTIENT, ([-5, 1], 0), ([5, 1], 0), [1, 1], 0)
        self.check(SUM, (TWO, 1), half, [-7, -4, 4], 1)
        self.check(PRODUCT, (TWO, 0), ([3, 1], 0), [-18, 0, 1], 1)
        self.check(QUOTIENT, (TWO, 1), ([4, 1], 0), [-1, 0, 8], 0)
        self.check(QUOTIENT, ([-1, 1], 0), (TWO, 0), [-1, 0, 2], 0)

    def test_with_zero(self):
        zero = ([0, 1], 0)
        self.check(SUM, zero, (TWO, 1), TWO, 1)
        self.check(SUM, (TWO, 0), zero, TWO, 0)
        self.check(DIFFERENCE, zero, (TWO, 1), TWO, 0)
        self.check(DIFFERENCE, (TWO, 1), zero, TWO, 1)
        self.check(PRODUCT, zero, (TWO, 1), [0, 1], 0)
        self.check(PRODUCT, (TWO, 1), zero, [0, 1], 0)
        self.check(PRODUCT, zero, zero, [0, 1], 0)
        self.check(QUOTIENT, zero, (TWO, 1), [0, 1], 0)
        self.check(SUM, zero, zero, [0, 1], 0)
        # 0 among other roots.
        three = ([0, -1, 0, 1], 1)
        self.check(PRODUCT, three, (TWO, 1), [0, -2, 0, 1], 1)
        self.check(PRODUCT, (TWO, 0), three, [0, -2, 0, 1], 1)
        self.check(QUOTIENT, three, (TWO, 0), [0, -1, 0, 2], 1)

    def test_with_itself(self):
        cube = [-2, 0, 0, 1]
        self.check(DIFFERENCE, (cube, 0), (cube, 0), [0, 108, 0, 0, 0, 0, 0, 1], 0)
        self.check(PRODUCT, (cube, 0), (cube, 0), [-4, 0, 0, 1], 0)
        self.check(QUOTIENT, (cube, 0), (cube, 0), [-1, 0, 0, 1], 0)
        self.check(QUOTIENT, (TWO, 0), (TWO, 0), [-1, 0, 1], 1)
        self.check(SUM, (TWO, 0), (TWO, 0), [0, -8, 0, 1], 0)
        golden = [-1, -1, 1]
        self.check(PRODUCT, (golden, 1), (golden, 1), product([1, 1], [1, -3, 1]), 2)
        self.check(PRODUCT, (golden, 0), (golden, 0), product([1, 1], [1, -3, 1]), 1)
        self.check(PRODUCT, (golden, 0), (golden, 1), product([1, 1], [1, -3, 1]), 0)
        self.check(DIFFERENCE, (golden, 1), (golden, 1), [0, -5, 0, 1], 1)
        self.check(QUOTIENT, (golden, 1), (golden, 1), product([-1, 1], [1, 3, 1]), 2)

    def test_more_than_once(self):
        thrice = product(TWO, TWO, TWO)
        twice = product(THREE, THREE, [1, 0, 1])
        self.check(SUM, (thrice, 1), (THREE, 1), [1, 0, -10, 0, 1], 3)
        self.check(PRODUCT, (thrice, 0), (with_roots(5, 5, 5, 5), 0), [-50, 0, 1], 0)
        for op in range(4):
            for left in (0, 1):
                for right in (0, 1):
                    self.check_by_floors(op, (thrice, left), (twice, right))
        # The square-free parts alone count: of degree 8 both, but 1 and 2.
        self.check(SUM, ([0] * 8 + [1], 0), (product(TWO, TWO, TWO, TWO), 1), TWO, 1)

    def test_divisor_with_root_zero(self):
        y = [0, -2, 0, 1]
        self.check(QUOTIENT, (THREE, 1), (y, 2), [-3, 0, 2], 1)
        self.check(QUOTIENT, (THREE, 1), (y, 0), [-3, 0, 2], 0)
        self.check(QUOTIENT, ([-1, 1], 0), ([0, -5, 1], 1), [-1, 5], 0)
        self.check(QUOTIENT, ([-1, 1], 0), ([0, 0, 0, -5, 1], 1), [-1, 5], 0)
        self.check(QUOTIENT, (y, 1), (y, 2), [0, -1, 0, 1], 1)
        self.check(QUOTIENT, (y, 2), (y, 2), [0, -1, 0, 1], 2)
        # A divisor very near to 0.
        self.check(QUOTIENT, ([-1, 1], 0), ([0, -1, BIG], 1), [-BIG, 1], 0)
        self.check(QUOTIENT, ([-1, 1], 0), ([1, BIG], 0), [BIG, 1], 0)
        self.check(QUOTIENT, ([0, 1], 0), ([-1, BIG], 0), [0, 1], 0)
        self.check(QUOTIENT, ([0, 1], 0), ([1, BIG], 0), [0, 1], 0)
        self.check(QUOTIENT, ([0, -1, 0, 1], 1), (["-1/999999", 0, 999999], 1), [0, -BIG ** 2, 0, 1], 1)
        self.check(QUOTIENT, ([0, -1, 0, 1], 1), (["-1/999999", 0, 999999], 0), [0, -BIG ** 2, 0, 1], 1)

    def test_broken_and_leads_below_zero(self):
        x, y = ["1/2", 0, "-1/4"], [1, 0, "-1/3"]
        self.check(SUM, (x, 1), (y, 1), [1, 0, -10, 0, 1], 3)
        self.check(QUOTIENT, (x, 0), (y, 1), [-2, 0, 3], 0)
        polynomials = [["-3/4", 1, "2/5"], [5, "1/3", "-7/2"], ["-1/7", 0, 0, "-9/4"], ["2/3", "-5/6", -1, "1/8"]]
        for p in polynomials:
            for q in polynomials:
                for op in range(4):
                    self.check_by_floors(op, (p, 0), (q, len(real_roots(square_free(q))) - 1))

    def test_roots_that_lie_near(self):
        # Near 1/999 two roots lie that differ by some 10 to the -15.
        p = [-1, 1998, -999 ** 2, 0, 0, 0, 0, 0, 1]
        for op in range(4):
            for root in range(4):
                self.check_by_floors(op, (p, root), ([-7, 3], 0))
                self.check_by_floors(op, ([5, 4], 0), (p, root))
        for root in (1, 2):
            self.check_by_floors(SUM, (p, root), (TWO, 1))
            self.check_by_floors(PRODUCT, (THREE, 0), (p, root))
        near = with_roots("700/699", "699/698")
        for op in range(4):
            for left in (0, 1):
                for right in (0, 1):
                    self.check_by_floors(op, (near, left), (near, right))

    def test_many(self):
        polynomials = [
            [1, -3, 0, 1], [-1, -1, 1], [6, 0, -5, 0, 1], [-5, 1, 0, 0, 2], [0, 2, -3, 1], [7, -2],
        ]
        for p in polynomials:
            for q in polynomials:
                for op in range(4):
                    left, right = len(real_roots(p)) - 1, (len(real_roots(q)) - 1) // 2
                    if op == QUOTIENT and real_roots(q)[right] == 0:
                        right += 1
                    self.check_by_floors(op, (p, left), (q, right))

    def test_real_sums_of_complex_roots(self):
        # Of x^3 - 2 two roots are not real, but their sum is: it counts among the roots of the polynomial told.
        cube = [-2, 0, 0, 1]
        self.check(SUM, (cube, 0), (cube, 0), product([2, 0, 0, 1], [-16, 0, 0, 1]), 1)

    def test_great_ones(self):
        x = ([-BIG, f"1/{BIG}"], 0)
        self.check(PRODUCT, x, x, [-BIG ** 4, 1], 0)
        self.check(QUOTIENT, x, ([-1, BIG], 0), [-BIG ** 3, 1], 0)
        self.check(SUM, ([1, BIG], 0), ([1, BIG - 1], 0), [2 * BIG - 1, BIG * (BIG - 1)], 0)
        wide = ["-999999/999998", "999983/999979", "-999961/999959", "999953/999931", "999907/999883"]
        other = ["999863/999853", "-999809/999773", "999769/999763", "-999749/999727", "-999721/999683"]
        for op in (DIFFERENCE, PRODUCT):
            self.check_by_floors(op, (wide, 0), (other, 1))

    def test_form_of_what_is_told(self):
        bases = [product(TWO, ["-6/5"]), product([-1, 2], [-1, 2]), [0, -4, 0, 1], product(THREE, [1, 0, 1], [-7])]
        for x in bases:
            for y in bases:
                for op in (SUM, DIFFERENCE, PRODUCT):
                    p = read(reckon(op, 0, 0, flat(*x), flat(*y))[:-1])
                    self.assertTrue(is_primitive(p) and is_square_free(p))


class Refused(unittest.TestCase):
    def reckoned(self, op, x, y):
        return reckon(op, x[1], y[1], flat(*x[0]), flat(*y[0]))

    def test_no_number(self):
        good = (TWO, 1)
        none = [(TWO, 2), (TWO, 1000), ([], 0), ([1, 0, 1], 0), ([5], 0), (with_roots(1, 1, 1), 1), ([0, 1], 1)]
        for op in range(4):
            for bad in none:
                self.assertEqual(self.reckoned(op, bad, good), [9, 3, 0])
                self.assertEqual(self.reckoned(op, good, bad), [9, 3, 1])
                for other in none:
                    self.assertEqual(self.reckoned(op, bad, other), [9, 3, 0])

    def test_division_by_zero(self):
        for zero in (([0, 1], 0), ([0, 0, 0, -4], 0), ([0, -1, 0, 1], 1), ([0, "-1/3", 1], 0), ([0, 1, 1], 1)):
            self.assertEqual(self.reckoned(QUOTIENT, (TWO, 1), zero), [9, 2])
            self.assertEqual(self.reckoned(QUOTIENT, zero, zero), [9, 2])
            for op in (SUM, DIFFERENCE, PRODUCT):
                self.assertEqual(self.reckoned(op, (TWO, 1), zero)[0], 0)
        for near in (([0, -1, BIG], 1), ([0, 1, BIG], 0), ([0, -1, 0, 1], 2), ([0, -1, 0, 1], 0)):
            self.assertEqual(self.reckoned(QUOTIENT, (TWO, 1), near)[0], 0)

    def test_three_ahead_of_two(self):
        self.assertEqual(self.reckoned(QUOTIENT, (TWO, 2), ([0, 1], 0)), [9, 3, 0])
        self.assertEqual(self.reckoned(QUOTIENT, ([], 0), ([0, 1], 0)), [9, 3, 0])
        self.assertEqual(self.reckoned(QUOTIENT, (TWO, 0), ([0, 1], 1)), [9, 3, 1])

    def test_degrees(self):
        eighth, sixth, fifth, fourth = [[-k] + [0] * (k - 1) + [1] for k in (8, 6, 5, 4)]
        cube = [-3, 0, 0, 1]
        for op in range(4):
            for p, q in ((eighth, cube), (cube, eighth), (sixth, cube), (fourth, fifth), (eighth, eighth)):
                self.assertEqual(self.reckoned(op, (p, 0), (q, 0)), [9, 4])
            # Just 16.
            for p, q in ((eighth, TWO), (TWO, eighth), (fourth, [-5, 0, 0, 0, 1])):
                self.assertEqual(self.reckoned(op, (p, 0), (q, 0))[0], 0)
            # The square-free parts' degrees count.
            self.assertEqual(self.reckoned(op, (eighth, 0), (product(TWO, TWO, TWO), 0))[0], 0)
            self.assertEqual(self.reckoned(op, (product(cube, cube), 0), (product(cube, THREE), 0))[0], 0)
        # The root 0 of the divisor counts too, though the quotient's polynomial has it not.
        self.assertEqual(self.reckoned(QUOTIENT, (sixth, 0), ([0, -2, 0, 1], 2)), [9, 4])
        self.assertEqual(self.reckoned(QUOTIENT, (fifth, 0), ([0, -2, 0, 1], 2))[0], 0)

    def test_ahead_of_four(self):
        eighth, cube = [-8] + [0] * 7 + [1], [0, -3, 0, 1]
        self.assertEqual(self.reckoned(QUOTIENT, (eighth, 0), (cube, 1)), [9, 2])
        self.assertEqual(self.reckoned(QUOTIENT, (eighth, 0), (cube, 2)), [9, 4])
        self.assertEqual(self.reckoned(QUOTIENT, (eighth, 2), (cube, 1)), [9, 3, 0])
        self.assertEqual(self.reckoned(SUM, (eighth, 2), (cube, 1)), [9, 3, 0])
        self.assertEqual(self.reckoned(SUM, (eighth, 1), (cube, 3)), [9, 3, 1])
        self.assertEqual(reckon(4, 0, 0, flat(*eighth), flat(*cube)), [9, 1])
        self.assertEqual(reckon(0, 0, 1001, flat(*eighth), flat(*cube)), [9, 1])


if __name__ == "__main__":
    unittest.main()
