"""The calls together: each real root once, in a cell of its own, and numbers reckoned and compared as what they are."""

import unittest
from fractions import Fraction

from rootnumbers.roots import at, cells, compare, count, digits, fraction, minus, one, reckon, root, rows, sign, two
from tests.helper import BIG, SAMPLES, flat, product, with_roots

POLYNOMIALS = SAMPLES[1:] + [
    [1, -3, 0, 1], [-1, -1, 1], product([-2, 0, 1], [-2, 0, 1], [-1, 3]), with_roots(1, 1, "1/3", "-2/5"),
    [-1, 1998, -999 ** 2, 0, 0, 0, 0, 0, 1], [1, 0, -32, 0, 160, 0, -256, 0, 128],
]

NUMBERS = [
    (flat(-2, 0, 1), 0), (flat(-2, 0, 1), 1), (flat(-3, 0, 1), 1), (flat(-1, 3), 0), (flat(5, 2), 0),
    (flat(*with_roots(1, 1, 2)), 1), (flat(-1, -1, 1), 1), (flat("1/2", 0, "-1/6"), 0), (flat(0, 1), 0),
]


def cells_of(p):
    numbers = cells(flat(*p))[2:]
    return [(numbers[k:k + 2], numbers[k + 2:k + 4]) for k in range(0, len(numbers), 4)]


def may_be_handed_in(answer):
    return answer[0] == 0 and answer[1] <= 9 and max(abs(number) for number in answer[2:-1]) <= BIG


class Together(unittest.TestCase):
    def same(self, answer, number):
        self.assertTrue(may_be_handed_in(answer), answer)
        self.assertEqual(compare(answer[-1], number[1], answer[2:-1], number[0]), [0, 1])

    def test_cells_hold_one_root_each(self):
        for p in POLYNOMIALS:
            found = cells_of(p)
            self.assertEqual(count(-BIG, 1, BIG, 1, flat(*p)), [0, len(found)])
            for (low_top, low_bottom), (high_top, high_bottom) in found:
                if max(abs(low_top), abs(high_top), low_bottom, high_bottom) > BIG:
                    continue
                if (low_top, low_bottom) == (high_top, high_bottom):
                    self.assertEqual(at(low_top, low_bottom, flat(*p)), [0, 0, 1])
                else:
                    self.assertEqual(count(low_top, low_bottom, high_top, high_bottom, flat(*p)), [0, 1])
                    self.assertNotEqual(at(low_top, low_bottom, flat(*p)), [0, 0, 1])

    def test_cells_and_numbers(self):
        for p in POLYNOMIALS:
            found = cells_of(p)
            self.assertEqual(minus(len(found), flat(*p)), [9, 3, 0])
            for k, (low, high) in enumerate(found):
                if low == high:
                    self.assertEqual(fraction(k, flat(*p)), [0] + low)
                    bits = low[1].bit_length() - 1
                    self.assertEqual(digits(k, bits, flat(*p)), [0, low[0]])
                else:
                    width = Fraction(*high) - Fraction(*low)
                    bits = width.denominator.bit_length() - 1
                    self.assertEqual(width, Fraction(1, 2 ** bits))
                    self.assertEqual(digits(k, bits, flat(*p)), [0, Fraction(*low) * 2 ** bits])

    def test_numbers_rise(self):
        for p in POLYNOMIALS:
            size = len(cells_of(p))
            for k in range(size):
                for j in range(size):
                    expected = 0 if k < j else 1 if k == j else 2
                    self.assertEqual(compare(k, j, flat(*p), flat(*p)), [0, expected])
                self.assertEqual(sign(k, flat(*p), flat(*p)), [0, 1])

    def test_rows_hold_all_roots(self):
        for p in POLYNOMIALS:
            answer = rows(flat(*p))
            place, size = 4, 0
            for step in range(answer[3]):
                end = place + 2 + 2 * answer[place + 1]
                if max(abs(number) for number in answer[place + 2:end]) <= BIG:
                    size += cells(answer[place + 2:end])[1]
                else:
                    size += len(cells_of(p))
                place = end
            self.assertEqual(size, len(cells_of(p)))

    def test_there_and_back(self):
        for x in NUMBERS:
            for y in NUMBERS:
                for there, back in ((0, 1), (1, 0), (2, 3), (3, 2)):
                    if there >= 2 and fraction(y[1], y[0]) == [0, 0, 1]:
                        continue
                    middle = reckon(there, x[1], y[1], x[0], y[0])
                    if may_be_handed_in(middle):
                        last = reckon(back, middle[-1], y[1], middle[2:-1], y[0])
                        if may_be_handed_in(last):
                            self.same(last, x)

    def test_places_may_be_changed(self):
        for x in NUMBERS:
            for y in NUMBERS:
                for op in (0, 2):
                    self.assertEqual(reckon(op, x[1], y[1], x[0], y[0]), reckon(op, y[1], x[1], y[0], x[0]))
                turned = reckon(1, y[1], x[1], y[0], x[0])
                self.assertEqual(minus(turned[-1], turned[2:-1]), reckon(1, x[1], y[1], x[0], y[0]))

    def test_difference_tells_the_order(self):
        for x in NUMBERS:
            for y in NUMBERS:
                less = reckon(1, x[1], y[1], x[0], y[0])
                self.assertEqual(sign(less[-1], flat(0, 1), less[2:-1]), compare(x[1], y[1], x[0], y[0]))

    def test_square_root_times_itself(self):
        for x in NUMBERS:
            found = root(x[1], x[0])
            if sign(x[1], flat(0, 1), x[0]) == [0, 0]:
                self.assertEqual(found, [9, 2])
            else:
                square = reckon(2, found[-1], found[-1], found[2:-1], found[2:-1])
                self.same(square, x)
                self.assertNotEqual(sign(found[-1], flat(0, 1), found[2:-1]), [0, 0])

    def test_sign_as_compared_with_a_fraction(self):
        for p in POLYNOMIALS:
            for k in range(len(cells_of(p))):
                for top, bottom in ((0, 1), (1, 1), (-3, 2), (1, 999), (665857, 470832)):
                    linear = [-top, bottom]
                    expected = compare(k, 0, flat(*p), flat(*linear))
                    self.assertEqual(sign(k, flat(*linear), flat(*p)), expected)

    def test_sign_of_products_and_sums(self):
        for x in NUMBERS:
            for p in SAMPLES[:14]:
                for q in SAMPLES[:14]:
                    both = two(2, flat(*p), flat(*q))
                    if len(both) <= 20 and all(abs(number) <= BIG for number in both[2:]):
                        left, right = sign(x[1], flat(*p), x[0])[1] - 1, sign(x[1], flat(*q), x[0])[1] - 1
                        self.assertEqual(sign(x[1], both[2:], x[0]), [0, 1 + left * right])

    def test_square_free_part_has_the_same_cells(self):
        for p in POLYNOMIALS:
            base = one(2, flat(*p))
            if max(abs(number) for number in base[2:]) <= BIG:
                self.assertEqual(cells(base[2:]), cells(flat(*p)))


if __name__ == "__main__":
    unittest.main()
