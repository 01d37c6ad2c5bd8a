"""What is refused 1, of each argument of each call, and that it is refused 1 ahead of all else."""

import unittest

from rootnumbers.roots import at, cells, compare, count, digits, fraction, minus, one, reckon, resultant, root, rows
from rootnumbers.roots import sign, two
from tests.helper import flat

# With two real roots, both above 0.
GOOD = flat(-1, "7/3", "-4/3")

BAD_FRACTIONS = [
    # a denominator 0 or below
    (1, 0), (0, 0), (1, -1), (0, -1), (-3, -2), (5, -1000000000000),
    # not in lowest terms
    (2, 2), (2, 4), (-6, 9), (999999, 3), (0, 2), (0, 999999),
    # too great
    (1000000, 1), (-1000000, 1), (1, 1000000), (999999, 1000000), (1000001, 999999),
    (1000000000000, 1), (-1000000000000, 1), (1, 1000000000000),
]

EDGE_FRACTIONS = [(999999, 1), (-999999, 1), (1, 999999), (-1, 999999), (999999, 999998), (-999998, 999999)]


def bad_polynomials():
    bad = []
    for top, bottom in BAD_FRACTIONS:
        bad.append([top, bottom])
        bad.append([top, bottom, 1, 1, 1, 2])
        bad.append([1, 2, top, bottom, 1, 1])
        bad.append([1, 2, 1, 1, top, bottom])
        bad.append([1, 1] * 8 + [top, bottom])
    # more than 9 coefficients
    bad.append([1, 1] * 10)
    bad.append([1, 2] * 30)
    bad.append([0, 1] * 9 + [1, 1])
    # a last coefficient 0
    bad.append([0, 1])
    bad.append([1, 1, 0, 1])
    bad.append([1, 2, 3, 1, 0, 1, 0, 1])
    bad.append([1, 1] * 9 + [0, 1])
    # half a coefficient
    bad.append([1])
    bad.append([1, 1, 1])
    bad.append([0, 1, 1])
    return bad


# Each argument's sort: a whole number up to a greatest one, the two numbers of a fraction, a polynomial.
CALLS = [
    (two, (("upto", 5), ("polynomial",), ("polynomial",))),
    (one, (("upto", 2), ("polynomial",))),
    (at, (("fraction",), ("polynomial",))),
    (resultant, (("polynomial",), ("polynomial",))),
    (rows, (("polynomial",),)),
    (count, (("fraction",), ("fraction",), ("polynomial",))),
    (cells, (("polynomial",),)),
    (reckon, (("upto", 3), ("upto", 1000), ("upto", 1000), ("polynomial",), ("polynomial",))),
    (minus, (("upto", 1000), ("polynomial",))),
    (root, (("upto", 1000), ("polynomial",))),
    (compare, (("upto", 1000), ("upto", 1000), ("polynomial",), ("polynomial",))),
    (sign, (("upto", 1000), ("polynomial",), ("polynomial",))),
    (digits, (("upto", 1000), ("upto", 256), ("polynomial",))),
    (fraction, (("upto", 1000), ("polynomial",))),
]


def bad_ones(sort):
    """What may not stand at an argument of this sort, as rows of whole arguments."""
    if sort[0] == "upto":
        return [[sort[1] + 1], [sort[1] + 2], [sort[1] + 256], [4294967295]]
    if sort[0] == "fraction":
        return [list(pair) for pair in BAD_FRACTIONS]
    return [[numbers] for numbers in bad_polynomials()]


def good_ones(sort):
    """What may stand there; the last of them leads to a later refusal where there is one."""
    if sort[0] == "upto":
        return [[0], [sort[1]]]
    if sort[0] == "fraction":
        return [[-1, 2], [0, 1]]
    return [[GOOD], [[]]]


class RefusedOne(unittest.TestCase):
    def test_each_argument(self):
        for call, sorts in CALLS:
            for choice in (0, -1):
                for place, sort in enumerate(sorts):
                    for bad in bad_ones(sort):
                        given = [good_ones(each)[choice] for each in sorts]
                        given[place] = bad
                        self.assertEqual(call(*sum(given, [])), [9, 1], (call.__name__, given))

    def test_all_arguments(self):
        for call, sorts in CALLS:
            self.assertEqual(call(*sum([bad_ones(sort)[0] for sort in sorts], [])), [9, 1])

    def test_good_ones_are_taken(self):
        for call, sorts in CALLS:
            self.assertEqual(call(*sum([good_ones(sort)[0] for sort in sorts], []))[0], 0, call.__name__)

    def test_ops(self):
        for op in range(6):
            self.assertEqual(two(op, GOOD, GOOD)[0], 0)
            self.assertEqual(one(op, GOOD)[0], 0 if op < 3 else 9)
            self.assertEqual(reckon(op, 1, 0, GOOD, GOOD)[0], 0 if op < 4 else 9)


class StillTaken(unittest.TestCase):
    def test_size(self):
        for top, bottom in EDGE_FRACTIONS:
            p = [top, bottom]
            self.assertEqual(two(0, p, []), [0, 1, top, bottom])
            self.assertEqual(two(0, [], p), [0, 1, top, bottom])
            self.assertEqual(one(0, [0, 1] + p), [0, 1, top, bottom])
            self.assertEqual(at(0, 1, p), [0, top, bottom])
            self.assertEqual(at(top, bottom, [0, 1, 1, 1]), [0, top, bottom])
            self.assertEqual(resultant(p, [1, 1, 1, 1]), [0, top, bottom])
            self.assertEqual(resultant([1, 1, 1, 1], p), [0, top, bottom])
            self.assertEqual(rows(p), [0, top, bottom, 0])
            self.assertEqual(count(top, bottom, top, bottom, p), [0, 0])
            self.assertEqual(cells(p), [0, 0])
            self.assertEqual(minus(0, [0, 1] + p), [0, 2, 0, 1, 1, 1, 0])
            self.assertEqual(reckon(0, 0, 0, [0, 1] + p, [0, 1] + p), [0, 2, 0, 1, 1, 1, 0])
            self.assertEqual(root(0, [0, 1] + p), [0, 2, 0, 1, 1, 1, 0])
            self.assertEqual(compare(0, 0, [0, 1] + p, [0, 1] + p), [0, 1])
            self.assertEqual(sign(0, p, [0, 1] + p), [0, 2 if top > 0 else 0])
            self.assertEqual(digits(0, 256, [0, 1] + p), [0, 0])
            self.assertEqual(fraction(0, [-top, bottom, 1, 1]), [0, top, bottom])

    def test_nine_coefficients(self):
        p = [1, 1] * 9
        self.assertEqual(two(0, p, []), [0, 9] + p)
        self.assertEqual(two(0, [], p), [0, 9] + p)
        self.assertEqual(one(1, p), [0, 9] + p)
        self.assertEqual(at(1, 1, p), [0, 9, 1])
        self.assertEqual(resultant(p, [-1, 1, 1, 1]), [0, 9, 1])
        self.assertEqual(resultant([-1, 1, 1, 1], p), [0, 9, 1])
        self.assertEqual(rows(p), [0, 1, 1, 1, 1, 9] + p)
        self.assertEqual(count(-9, 1, 9, 1, p), [0, 0])
        self.assertEqual(cells(p), [0, 0])
        p = [0, 1] * 8 + [1, 1]
        self.assertEqual(minus(0, p), [0, 2, 0, 1, 1, 1, 0])
        self.assertEqual(reckon(0, 0, 0, p, p), [0, 2, 0, 1, 1, 1, 0])
        self.assertEqual(root(0, p), [0, 2, 0, 1, 1, 1, 0])
        self.assertEqual(compare(0, 0, p, p), [0, 1])
        self.assertEqual(sign(0, p, p), [0, 1])
        self.assertEqual(digits(0, 256, p), [0, 0])
        self.assertEqual(fraction(0, p), [0, 0, 1])

    def test_root_upto_a_thousand(self):
        for which in (2, 999, 1000):
            self.assertEqual(minus(which, GOOD), [9, 3, 0])
            self.assertEqual(root(which, GOOD), [9, 3, 0])
            self.assertEqual(sign(which, GOOD, GOOD), [9, 3, 0])
            self.assertEqual(digits(which, 256, GOOD), [9, 3, 0])
            self.assertEqual(fraction(which, GOOD), [9, 3, 0])
            self.assertEqual(reckon(0, which, 0, GOOD, GOOD), [9, 3, 0])
            self.assertEqual(reckon(0, 0, which, GOOD, GOOD), [9, 3, 1])
            self.assertEqual(compare(which, 0, GOOD, GOOD), [9, 3, 0])
            self.assertEqual(compare(0, which, GOOD, GOOD), [9, 3, 1])


class OneAheadOfTwo(unittest.TestCase):
    def test_two(self):
        for op in (3, 4):
            self.assertEqual(two(op, GOOD, []), [9, 2])
            for bad in bad_polynomials():
                self.assertEqual(two(op, bad, []), [9, 1])
        self.assertEqual(two(6, GOOD, []), [9, 1])
        self.assertEqual(two(3, GOOD, [0, 1]), [9, 1])

    def test_one(self):
        for op in (1, 2):
            self.assertEqual(one(op, []), [9, 2])
            self.assertEqual(one(op, [0, 1]), [9, 1])
        self.assertEqual(one(3, []), [9, 1])

    def test_rows_cells_and_count(self):
        for call in (rows, cells):
            self.assertEqual(call([]), [9, 2])
            self.assertEqual(call([0, 1]), [9, 1])
        self.assertEqual(count(0, 1, 1, 1, []), [9, 2])
        for top, bottom in BAD_FRACTIONS:
            self.assertEqual(count(top, bottom, 1, 1, []), [9, 1])
            self.assertEqual(count(0, 1, top, bottom, []), [9, 1])


class InTheirOrder(unittest.TestCase):
    """Arguments for which several refusals would hold, each call's in turn: always the first of them is given."""

    eighth = flat(-8, 0, 0, 0, 0, 0, 0, 0, 1)
    with_zero = flat(0, -3, 0, 1)

    def test_reckon(self):
        for op, x_root, y_root, x, y, expected in (
            (4, 1001, 1001, [0, 1], [0, 1], [9, 1]),
            (4, 9, 9, [], [], [9, 1]),
            (3, 1001, 0, [], [], [9, 1]),
            (3, 9, 1001, self.eighth, self.with_zero, [9, 1]),
            (3, 9, 9, self.eighth, self.with_zero, [9, 3, 0]),
            (3, 9, 1, self.eighth, self.with_zero, [9, 3, 0]),
            (3, 0, 9, self.eighth, self.with_zero, [9, 3, 1]),
            (3, 0, 0, self.eighth, [], [9, 3, 1]),
            (3, 0, 1, self.eighth, self.with_zero, [9, 2]),
            (3, 0, 2, self.eighth, self.with_zero, [9, 4]),
            (2, 0, 1, self.eighth, self.with_zero, [9, 4]),
        ):
            self.assertEqual(reckon(op, x_root, y_root, x, y), expected)

    def test_one_number(self):
        for call in (minus, root, fraction, lambda which, x: digits(which, 256, x), lambda which, x: sign(which, [], x)):
            self.assertEqual(call(1001, [0, 1]), [9, 1])
            self.assertEqual(call(1001, self.eighth), [9, 1])
            self.assertEqual(call(9, [1, 1, 0, 1]), [9, 1])
            self.assertEqual(call(9, self.eighth), [9, 3, 0])
            self.assertEqual(call(0, []), [9, 3, 0])
        self.assertEqual(root(0, self.eighth), [9, 2])
        self.assertEqual(fraction(0, self.eighth), [9, 5])
        self.assertEqual(digits(9, 257, self.eighth), [9, 1])

    def test_compare(self):
        self.assertEqual(compare(9, 1001, self.eighth, self.eighth), [9, 1])
        self.assertEqual(compare(9, 9, self.eighth, self.eighth), [9, 3, 0])
        self.assertEqual(compare(0, 9, self.eighth, self.eighth), [9, 3, 1])
        # No bound of degrees here.
        self.assertEqual(compare(0, 1, self.eighth, self.eighth), [0, 0])


if __name__ == "__main__":
    unittest.main()
