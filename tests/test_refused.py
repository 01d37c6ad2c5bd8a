"""What is refused 1, of each argument of each call, and that it is refused 1 ahead of 2."""

import unittest

from rootnumbers.roots import at, one, two
from tests.helper import flat

GOOD = flat(1, "2/3", -4)

BAD_FRACTIONS = [
    # a denominator 0 or below
    (1, 0), (0, 0), (1, -1), (0, -1), (-3, -2), (5, -1000000000000),
    # not in lowest terms
    (2, 2), (2, 4), (-6, 9), (999999, 3), (0, 2), (0, 999999),
    # too great
    (1000000, 1), (-1000000, 1), (1, 1000000), (999999, 1000000), (1000001, 999999),
    (1000000000000, 1), (-1000000000000, 1), (1, 1000000000000),
]

EDGE_FRACTIONS = [(999999, 1), (-999999, 1), (1, 999999), (-1, 999999), (999999, 999998), (-999998, 999999)]


def bad_polynomials():
    bad = []
    for top, bottom in BAD_FRACTIONS:
        bad.append([top, bottom])
        bad.append([top, bottom, 1, 1, 1, 2])
        bad.append([1, 2, top, bottom, 1, 1])
        bad.append([1, 2, 1, 1, top, bottom])
        bad.append([1, 1] * 8 + [top, bottom])
    # more than 9 coefficients
    bad.append([1, 1] * 10)
    bad.append([1, 2] * 30)
    bad.append([0, 1] * 9 + [1, 1])
    # a last coefficient 0
    bad.append([0, 1])
    bad.append([1, 1, 0, 1])
    bad.append([1, 2, 3, 1, 0, 1, 0, 1])
    bad.append([1, 1] * 9 + [0, 1])
    return bad


class Ops(unittest.TestCase):
    def test_two(self):
        for op in (6, 7, 8, 9, 256, 4294967295):
            self.assertEqual(two(op, GOOD, GOOD), [9, 1])
        for op in range(6):
            self.assertEqual(two(op, GOOD, GOOD)[0], 0)

    def test_one(self):
        for op in (3, 4, 5, 6, 256, 4294967295):
            self.assertEqual(one(op, GOOD), [9, 1])
        for op in range(3):
            self.assertEqual(one(op, GOOD)[0], 0)


class Polynomials(unittest.TestCase):
    def test_two(self):
        for bad in bad_polynomials():
            for op in range(6):
                self.assertEqual(two(op, bad, GOOD), [9, 1])
                self.assertEqual(two(op, GOOD, bad), [9, 1])
                self.assertEqual(two(op, bad, bad), [9, 1])

    def test_one(self):
        for bad in bad_polynomials():
            for op in range(3):
                self.assertEqual(one(op, bad), [9, 1])

    def test_at(self):
        for bad in bad_polynomials():
            self.assertEqual(at(1, 2, bad), [9, 1])

    def test_half_a_coefficient(self):
        for bad in ([1], [1, 1, 1], [0, 1, 1]):
            self.assertEqual(two(0, bad, GOOD), [9, 1])
            self.assertEqual(two(0, GOOD, bad), [9, 1])
            self.assertEqual(one(0, bad), [9, 1])
            self.assertEqual(at(0, 1, bad), [9, 1])


class Fractions(unittest.TestCase):
    def test_at(self):
        for top, bottom in BAD_FRACTIONS:
            for p in (GOOD, []):
                self.assertEqual(at(top, bottom, p), [9, 1])


class StillTaken(unittest.TestCase):
    def test_size(self):
        for top, bottom in EDGE_FRACTIONS:
            p = [top, bottom]
            self.assertEqual(two(0, p, []), [0, 1, top, bottom])
            self.assertEqual(two(0, [], p), [0, 1, top, bottom])
            self.assertEqual(one(0, [0, 1] + p), [0, 1, top, bottom])
            self.assertEqual(at(0, 1, p), [0, top, bottom])
            self.assertEqual(at(top, bottom, [0, 1, 1, 1]), [0, top, bottom])

    def test_nine_coefficients(self):
        p = [1, 1] * 9
        self.assertEqual(two(0, p, []), [0, 9] + p)
        self.assertEqual(two(0, [], p), [0, 9] + p)
        self.assertEqual(one(1, p), [0, 9] + p)
        self.assertEqual(at(1, 1, p), [0, 9, 1])


class OneAheadOfTwo(unittest.TestCase):
    def test_two(self):
        for op in (3, 4):
            self.assertEqual(two(op, GOOD, []), [9, 2])
            for bad in bad_polynomials():
                self.assertEqual(two(op, bad, []), [9, 1])
        self.assertEqual(two(6, GOOD, []), [9, 1])
        self.assertEqual(two(3, GOOD, [0, 1]), [9, 1])

    def test_one(self):
        for op in (1, 2):
            self.assertEqual(one(op, []), [9, 2])
            self.assertEqual(one(op, [0, 1]), [9, 1])
        self.assertEqual(one(3, []), [9, 1])


if __name__ == "__main__":
    unittest.main()
