"""two: sums, differences, products, quotients, rests and common divisors."""

import unittest
from fractions import Fraction

from rootnumbers.roots import two
from tests.helper import BIG, SAMPLES, flat, product, read, told, total, with_roots

SUM, DIFFERENCE, PRODUCT, QUOTIENT, REST, DIVISOR = range(6)


def pairs():
    return [(p, q) for p in SAMPLES for q in SAMPLES]


class Sum(unittest.TestCase):
    def test_whole_and_broken(self):
        self.assertEqual(two(SUM, flat(1, 2, 3), flat(4, -5, 6)), told(5, -3, 9))
        self.assertEqual(two(SUM, flat("1/2", "1/3"), flat("1/3", "1/6")), told("5/6", "1/2"))
        self.assertEqual(two(SUM, flat("1/2"), flat("1/2", "-3/4")), told(1, "-3/4"))

    def test_numbers_as_they_stand(self):
        self.assertEqual(two(SUM, [1, 2, -1, 3], [1, 2, 0, 1, 5, 1]), [0, 3, 1, 1, -1, 3, 5, 1])

    def test_leads_fall_away(self):
        self.assertEqual(two(SUM, flat(1, 2, 3), flat(1, 2, -3)), told(2, 4))
        self.assertEqual(two(SUM, flat(1, 0, "1/3", 2), flat(1, 0, "-1/3", -2)), told(2))
        self.assertEqual(two(SUM, flat(0, "1/2", 3), flat(0, "-1/2", -3)), [0, 0])

    def test_zero_inside_stays(self):
        self.assertEqual(two(SUM, flat(1, 2, 3), flat(-1, -2, 1)), [0, 3, 0, 1, 0, 1, 4, 1])

    def test_with_zero(self):
        self.assertEqual(two(SUM, [], flat(1, "2/3")), told(1, "2/3"))
        self.assertEqual(two(SUM, flat(1, "2/3"), []), told(1, "2/3"))
        self.assertEqual(two(SUM, [], []), [0, 0])

    def test_all_samples(self):
        for p, q in pairs():
            self.assertEqual(read(two(SUM, flat(*p), flat(*q))), total(p, q))

    def test_far_above_a_million(self):
        self.assertEqual(two(SUM, [1, 999999], [1, 999998]), [0, 1, 1999997, 999997000002])


class Difference(unittest.TestCase):
    def test_whole_and_broken(self):
        self.assertEqual(two(DIFFERENCE, flat(1, 2, 3), flat(4, -5, 6)), told(-3, 7, -3))
        self.assertEqual(two(DIFFERENCE, flat("1/2"), flat("1/3", "1/6")), told("1/6", "-1/6"))
        self.assertEqual(two(DIFFERENCE, flat("1/3", "1/6"), flat("1/2")), told("-1/6", "1/6"))

    def test_leads_fall_away(self):
        self.assertEqual(two(DIFFERENCE, flat(1, 2, 3), flat(2, 1, 3)), told(-1, 1))
        self.assertEqual(two(DIFFERENCE, flat(5, "1/2", 3), flat(1, "1/2", 3)), told(4))
        self.assertEqual(two(DIFFERENCE, flat(5, "1/2", 3), flat(5, "1/2", 3)), [0, 0])

    def test_with_zero(self):
        self.assertEqual(two(DIFFERENCE, [], flat(1, "-2/3")), told(-1, "2/3"))
        self.assertEqual(two(DIFFERENCE, flat(1, "-2/3"), []), told(1, "-2/3"))
        self.assertEqual(two(DIFFERENCE, [], []), [0, 0])

    def test_all_samples(self):
        for p, q in pairs():
            self.assertEqual(read(two(DIFFERENCE, flat(*p), flat(*q))), total(p, product(q, [-1])))


class Product(unittest.TestCase):
    def test_whole_and_broken(self):
        self.assertEqual(two(PRODUCT, flat(-2, 0, 1), flat(-3, 0, 1)), told(6, 0, -5, 0, 1))
        self.assertEqual(two(PRODUCT, flat("1/2", 1), flat("2/3", "-4/5")), told("1/3", "4/15", "-4/5"))

    def test_with_zero(self):
        self.assertEqual(two(PRODUCT, [], flat(1, 2)), [0, 0])
        self.assertEqual(two(PRODUCT, flat(1, 2), []), [0, 0])
        self.assertEqual(two(PRODUCT, [], []), [0, 0])

    def test_all_samples(self):
        for p, q in pairs():
            self.assertEqual(read(two(PRODUCT, flat(*p), flat(*q))), product(p, q))

    def test_far_above_a_million(self):
        self.assertEqual(two(PRODUCT, [BIG, 1], [-BIG, 1]), [0, 1, -999998000001, 1])
        self.assertEqual(two(PRODUCT, [1, BIG], [1, BIG]), [0, 1, 1, 999998000001])
        answer = two(PRODUCT, [BIG, 1] * 9, [BIG, 1] * 9)
        counts = [1, 2, 3, 4, 5, 6, 7, 8, 9, 8, 7, 6, 5, 4, 3, 2, 1]
        self.assertEqual(answer, told(*[999998000001 * count for count in counts]))


class QuotientAndRest(unittest.TestCase):
    def both(self, p, q):
        return two(QUOTIENT, flat(*p), flat(*q)), two(REST, flat(*p), flat(*q))

    def test_whole_and_broken(self):
        self.assertEqual(self.both([1, 0, 0, 1], [1, 1]), (told(1, -1, 1), [0, 0]))
        self.assertEqual(self.both([5, 0, 1], [1, 2]), (told("-1/4", "1/2"), told("21/4")))
        self.assertEqual(self.both([1, "1/2", "1/3"], ["1/2", "2/3"]), (told("3/8", "1/2"), told("13/16")))

    def test_inner_zeros(self):
        self.assertEqual(self.both([3, 0, 2, 0, 1], [1, 0, 1]), (told(1, 0, 1), told(2)))
        self.assertEqual(self.both([0, 0, 0, 0, 0, 1], [0, 0, 1]), (told(0, 0, 0, 1), [0, 0]))
        self.assertEqual(self.both([7, 1, 0, 1], [0, 0, 1]), (told(0, 1), told(7, 1)))

    def test_rest_falls_more_than_one_degree(self):
        self.assertEqual(self.both([4, -1, 1, 2], [3, -1, 1, 2]), (told(1), told(1)))

    def test_by_a_constant(self):
        self.assertEqual(self.both([1, 2, 3], ["-2/3"]), (told("-3/2", -3, "-9/2"), [0, 0]))

    def test_of_greater_degree(self):
        self.assertEqual(self.both([1, 2], [1, 2, 3]), ([0, 0], told(1, 2)))
        self.assertEqual(self.both(["1/2"], [0, 0, 0, 0, 0, 0, 0, 0, 5]), ([0, 0], told("1/2")))

    def test_of_zero(self):
        self.assertEqual(self.both([], [1, 2]), ([0, 0], [0, 0]))
        self.assertEqual(self.both([], [3]), ([0, 0], [0, 0]))

    def test_by_zero(self):
        for p in SAMPLES:
            self.assertEqual(self.both(p, []), ([9, 2], [9, 2]))

    def test_all_samples(self):
        for p, q in pairs():
            if q:
                quotient, rest = [read(answer) for answer in self.both(p, q)]
                self.assertEqual(total(product(quotient, q), rest), [Fraction(a) for a in p])
                self.assertLess(len(rest), len(q))

    def test_far_above_a_million(self):
        quotient, rest = self.both([1, 0, 0, 0, 0, 0, 0, 0, BIG], [BIG, 1])
        self.assertEqual(quotient, told(*[(-1) ** (k + 1) * BIG ** (8 - k) for k in range(8)]))
        self.assertEqual(rest, told(BIG ** 9 + 1))


class CommonDivisor(unittest.TestCase):
    def test_of_zero(self):
        self.assertEqual(two(DIVISOR, [], []), [0, 0])
        for other in (flat(2, 0, 4), flat(1, "-2/3")):
            self.assertEqual(two(DIVISOR, [], other), two(DIVISOR, other, []))
        self.assertEqual(two(DIVISOR, [], flat(2, 0, 4)), told("1/2", 0, 1))
        self.assertEqual(two(DIVISOR, flat(1, "-2/3"), []), told("-3/2", 1))
        self.assertEqual(two(DIVISOR, [], flat(-5)), told(1))
        self.assertEqual(two(DIVISOR, flat("5/7"), []), told(1))

    def test_without_common_root(self):
        self.assertEqual(two(DIVISOR, flat(-2, 0, 1), flat(-3, 0, 1)), told(1))
        self.assertEqual(two(DIVISOR, flat(6, 4), flat(6)), told(1))
        self.assertEqual(two(DIVISOR, flat(4), flat(6)), told(1))
        self.assertEqual(two(DIVISOR, flat("1/2"), flat(1, 2, 3)), told(1))
        self.assertEqual(two(DIVISOR, flat(1, 2, 3, 4, 5, 6, 7, 8, 9), flat(9, 8, 7, 6, 5, 4, 3, 2, 1)), told(1))

    def test_with_itself(self):
        for p in SAMPLES[1:]:
            expected = [Fraction(a) / Fraction(p[-1]) for a in p]
            self.assertEqual(read(two(DIVISOR, flat(*p), flat(*p))), expected)

    def test_common_roots(self):
        self.assertEqual(two(DIVISOR, flat(-1, 0, 1), flat(1, 2, 1)), told(1, 1))
        self.assertEqual(two(DIVISOR, flat(-2, 0, 2), flat("3/4", "-3/4")), told(-1, 1))
        self.assertEqual(two(DIVISOR, flat(-2, 0, 1), flat(0, -2, 0, 1)), told(-2, 0, 1))
        self.assertEqual(two(DIVISOR, flat(1, -3, 2), flat(-1, 2)), told("-1/2", 1))

    def test_roots_that_stand_more_than_once(self):
        cases = [
            ([1, 1, 1, 2], [1, 1, 3], [1, 1]),
            ([1, 1, 2, 2, 2, 0], [1, 1, 1, 2, 2, 3], [1, 1, 2, 2]),
            (["1/2", "1/2", "-1/3"], ["1/2", "-1/3", "-1/3"], ["1/2", "-1/3"]),
            ([0, 0, 0, 0], [0, 0, 0, 5, -5], [0, 0, 0]),
            ([3] * 8, [3] * 5 + [4], [3] * 5),
            ([-1, 1, 2], [3, 4, 5], []),
        ]
        for of_p, of_q, of_both in cases:
            for scale_p, scale_q in ((1, 1), (2, -3), (Fraction(-1, 2), Fraction(5, 3))):
                p = flat(*product(with_roots(*of_p), [scale_p]))
                q = flat(*product(with_roots(*of_q), [scale_q]))
                expected = told(*with_roots(*of_both))
                self.assertEqual(two(DIVISOR, p, q), expected)
                self.assertEqual(two(DIVISOR, q, p), expected)

    def test_roots_that_are_no_fractions(self):
        p = product([-2, 0, 1], [-2, 0, 1], [1, 1, 1])
        q = product([-2, 0, 1], [1, 1, 1], [1, 1, 1])
        self.assertEqual(read(two(DIVISOR, flat(*p), flat(*q))), product([-2, 0, 1], [1, 1, 1]))

    def test_far_above_a_million(self):
        answer = two(DIVISOR, [1, 999999, 1, 999998, 1, 999997], [])
        self.assertEqual(answer, told(Fraction(999997, 999999), Fraction(999997, 999998), 1))
        answer = two(DIVISOR, [999997, 999998, 0, 1, 1, 999999], [])
        self.assertEqual(answer, [0, 3, 999997 * 999999, 999998, 0, 1, 1, 1])
        p = flat(*SAMPLES[-1])
        q = flat(*reversed(SAMPLES[-1]))
        self.assertEqual(two(DIVISOR, p, q), told(1))


if __name__ == "__main__":
    unittest.main()
