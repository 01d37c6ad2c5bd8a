"""resultant: exact, by its definition and by the determinant of the coefficients."""

import unittest
from fractions import Fraction

from rootnumbers.roots import resultant
from tests.helper import BIG, SAMPLES, flat, product, value, with_roots


def determinant(matrix):
    rows = [list(row) for row in matrix]
    result = Fraction(1)
    for k in range(len(rows)):
        pivot = next((i for i in range(k, len(rows)) if rows[i][k] != 0), None)
        if pivot is None:
            return Fraction(0)
        if pivot != k:
            rows[k], rows[pivot] = rows[pivot], rows[k]
            result = -result
        result *= rows[k][k]
        for i in range(k + 1, len(rows)):
            factor = rows[i][k] / rows[k][k]
            rows[i] = [a - factor * b for a, b in zip(rows[i], rows[k])]
    return result


def sylvester(p, q):
    """The resultant as the determinant of Sylvester's matrix."""
    if not p or not q:
        return Fraction(0)
    n, m = len(p) - 1, len(q) - 1
    leads_first = [Fraction(a) for a in reversed(p)], [Fraction(a) for a in reversed(q)]
    matrix = [[Fraction(0)] * k + leads_first[0] + [Fraction(0)] * (m - 1 - k) for k in range(m)]
    matrix += [[Fraction(0)] * k + leads_first[1] + [Fraction(0)] * (n - 1 - k) for k in range(n)]
    return determinant(matrix)


def answer(number):
    fraction = Fraction(number)
    return [0, fraction.numerator, fraction.denominator]


class Resultant(unittest.TestCase):
    def check(self, p, q, expected):
        self.assertEqual(resultant(flat(*p), flat(*q)), answer(expected))

    def test_example(self):
        self.assertEqual(resultant([-2, 1, 0, 1, 1, 1], [-1, 1, 1, 1]), [0, -1, 1])

    def test_one_is_zero(self):
        for p in SAMPLES:
            self.check(p, [], 0)
            self.check([], p, 0)

    def test_of_two_constants(self):
        for a in (1, 5, -3, "2/3"):
            for b in (1, -7, "-5/4"):
                self.check([a], [b], 1)

    def test_constant_on_one_side(self):
        self.check([3], [1, 0, 5], 9)
        self.check([1, 0, 5], [3], 9)
        self.check([-3], [1, 0, 0, 5], -27)
        self.check([1, 0, 0, -5], [-3], -27)
        self.check(["2/3"], [0, 0, 0, 0, 7], Fraction(16, 81))
        self.check(["-1/2", 1], ["-3/4"], Fraction(-3, 4))
        self.check([BIG], [0] * 8 + [1], BIG ** 8)
        self.check([0] * 8 + [1], [f"1/{BIG}"], Fraction(1, BIG ** 8))

    def test_common_root(self):
        self.check([-1, 0, 1], [-1, 1], 0)
        self.check([-1, 1], [-1, 0, 1], 0)
        self.check(product([-2, 0, 1], [1, 1]), product([-2, 0, 1], [5, 1, 1]), 0)
        self.check(product([1, 0, 1], [-3, 1]), product([1, 0, 1], ["1/2", -7]), 0)
        self.check(["-1/3", "1/2"], [-2, 3], 0)
        self.check([0, 1], [0, 5, 1], 0)
        self.check(SAMPLES[-1], SAMPLES[-1], 0)

    def test_by_the_roots(self):
        cases = [
            ([1], [2, 3, 4]),
            ([1, 2], [3]),
            ([1, "-1/2", 5], [0, 7, "2/3"]),
            ([1, 1, 1, 2], [0, 0, 3]),
            ([3, 4, 5, 6], ["1/2", "-1/3", "1/4", "-1/5", 7, 8, 9]),
        ]
        for of_p, of_q in cases:
            for lead_p in (Fraction(1), Fraction(-3), Fraction(5, 7)):
                for lead_q in (Fraction(1), Fraction(-1, 2)):
                    p = product(with_roots(*of_p), [lead_p])
                    q = product(with_roots(*of_q), [lead_q])
                    expected = lead_p ** len(of_q)
                    for root in of_p:
                        expected *= value(q, root)
                    self.check(p, q, expected)

    def test_lesser_same_and_greater_degree(self):
        p, q = [1, 1, 1], [2, 0, 0, 1]
        self.check(p, q, 9)
        self.check(q, p, 9)
        self.check([3, 1, 1], [1, 1, 1], 4)
        self.check([1, 2], [3, 4], 2)
        self.check([1, 2, 0, 3], [1, 5], 5 ** 3 * value([1, 2, 0, 3], "-1/5") * -1)

    def test_sign_when_they_change_places(self):
        odd = [[1, 2], [5, 0, 1, -2], ["1/2", 0, 0, 0, 0, "3/7"]]
        even = [[3], [1, 1, 1], [-2, 0, 0, 1, "-1/3"]]
        for p in odd + even:
            for q in odd + even:
                here, there = resultant(flat(*p), flat(*q)), resultant(flat(*q), flat(*p))
                turned = p in odd and q in odd and p != q
                self.assertEqual(here, [0, -there[1], there[2]] if turned else there)
        self.assertEqual(resultant(flat(1, 2), flat(3, 4)), [0, 2, 1])
        self.assertEqual(resultant(flat(3, 4), flat(1, 2)), [0, -2, 1])

    def test_all_samples(self):
        for p in SAMPLES:
            for q in SAMPLES:
                self.check(p, q, sylvester(p, q))

    def test_rests_that_fall_by_more_than_one(self):
        self.check([1, 0, 0, 0, 1], [2, 0, 0, 0, 1], sylvester([1, 0, 0, 0, 1], [2, 0, 0, 0, 1]))
        p, q = [7, 0, 0, 0, 0, 0, -2, 1], [3, 0, 0, -2, 0, 1]
        self.check(p, q, sylvester(p, q))
        self.check(q, p, sylvester(q, p))

    def test_eight_with_eight(self):
        p = ["999999/999998", "-999997/999996", 0, "999995/999994", 1, 0, "-1/999993", 2, "-999991/999990"]
        q = ["1/999999", "999979/999978", "-999961/999960", 5, 0, 0, "999931/999930", -1, "999907/999906"]
        expected = sylvester(p, q)
        self.assertGreater(expected.denominator, 10 ** 100)
        self.check(p, q, expected)
        self.check(q, p, expected)
        self.check([-1] + [0] * 7 + [BIG], [-BIG] + [0] * 7 + [1], (1 - BIG ** 2) ** 8)


if __name__ == "__main__":
    unittest.main()
