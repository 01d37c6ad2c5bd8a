"""Every example of the document, of every call that has one."""

import unittest

from rootnumbers.roots import cells, compare, digits, fraction, minus, reckon, resultant, root, rows, sign
from tests.helper import flat, product, told

TWO = flat(-2, 0, 1)
THREE = flat(-3, 0, 1)
FOUR = flat(-4, 0, 1)


def ends(*fractions):
    return [0, len(fractions) // 2] + flat(*fractions)


class Examples(unittest.TestCase):
    def test_cells(self):
        self.assertEqual(cells(TWO), ends(-2, -1, 1, 2))
        self.assertEqual(cells(flat(0, -1, 0, 1)), ends(-1, -1, 0, 0, 1, 1))
        self.assertEqual(cells(flat(1, -3, 2)), ends("1/2", "1/2", 1, 1))
        self.assertEqual(cells(flat(-1, 3)), ends(0, 1))
        both = flat(*product([-2, 0, 1], [-3, 0, 1]))
        self.assertEqual(cells(both), ends(-2, "-3/2", "-3/2", -1, 1, "3/2", "3/2", 2))

    def test_rows(self):
        self.assertEqual(rows(flat(-1, 3, -3, 1)), [0, 1, 1, 1, 3] + told(-1, 1)[1:])
        self.assertEqual(rows(flat(-4, 0, 4)), [0, 4, 1, 1, 1] + told(-1, 0, 1)[1:])

    def test_resultant(self):
        self.assertEqual(resultant(TWO, flat(-1, 1)), [0, -1, 1])

    def test_reckon(self):
        self.assertEqual(reckon(0, 1, 1, TWO, THREE), told(1, 0, -10, 0, 1) + [3])
        self.assertEqual(reckon(2, 1, 1, TWO, TWO), told(-4, 0, 1) + [1])
        self.assertEqual(reckon(1, 1, 1, TWO, TWO), told(0, -8, 0, 1) + [1])

    def test_compare(self):
        self.assertEqual(compare(1, 0, TWO, flat(-3, 2)), [0, 0])

    def test_digits(self):
        self.assertEqual(digits(1, 8, TWO), [0, 362])

    def test_fraction(self):
        self.assertEqual(fraction(1, FOUR), [0, 2, 1])
        self.assertEqual(fraction(1, TWO), [9, 5])

    def test_root(self):
        self.assertEqual(root(1, FOUR), told(-4, 0, 0, 0, 1) + [1])

    def test_sign(self):
        self.assertEqual(sign(0, flat(-1, 1), TWO), [0, 0])

    def test_no_number(self):
        self.assertEqual(minus(2, TWO), [9, 3, 0])
        self.assertEqual(root(2, TWO), [9, 3, 0])
        self.assertEqual(fraction(2, TWO), [9, 3, 0])
        self.assertEqual(digits(2, 8, TWO), [9, 3, 0])
        self.assertEqual(sign(2, TWO, TWO), [9, 3, 0])
        self.assertEqual(reckon(0, 2, 2, TWO, TWO), [9, 3, 0])
        self.assertEqual(compare(2, 2, TWO, TWO), [9, 3, 0])


if __name__ == "__main__":
    unittest.main()
