"""cells: each real root once, in a cell of its own."""

import unittest
from fractions import Fraction
from itertools import combinations_with_replacement
from math import floor

from rootnumbers.roots import cells
from tests.helper import BIG, SAMPLES, flat, product, real_roots, square_free, value, with_roots


def answer(*ends):
    """The answer with these cells, each a pair of ends."""
    return [0, len(ends)] + [number for low, high in ends for number in flat(low, high)]


def expected_cells(p):
    """By the words alone, from the floors of the roots in very small parts."""
    base = square_free(p)
    found = real_roots(base)
    small = Fraction(1, 2 ** 120)
    result = []
    for root in found:
        if value(base, root) == 0:
            result.append((root, root))
            continue
        n = 0
        while True:
            low, high = Fraction(floor(root * 2 ** n), 2 ** n), Fraction(floor(root * 2 ** n) + 1, 2 ** n)
            if not any(other != root and low - small < other <= high for other in found):
                break
            n += 1
        result.append((low, high))
    return answer(*result)


class Cells(unittest.TestCase):
    def check(self, p, *ends):
        self.assertEqual(cells(flat(*p)), answer(*ends))

    def test_examples(self):
        self.assertEqual(cells([-2, 1, 0, 1, 1, 1]), [0, 2, -2, 1, -1, 1, 1, 1, 2, 1])
        self.assertEqual(cells(flat(0, -1, 0, 1)), [0, 3, -1, 1, -1, 1, 0, 1, 0, 1, 1, 1, 1, 1])
        self.assertEqual(cells(flat(1, -3, 2)), [0, 2, 1, 2, 1, 2, 1, 1, 1, 1])
        self.assertEqual(cells(flat(-1, 3)), [0, 1, 0, 1, 1, 1])
        both = [0, 4, -2, 1, -3, 2, -3, 2, -1, 1, 1, 1, 3, 2, 3, 2, 2, 1]
        self.assertEqual(cells(flat(*product([-2, 0, 1], [-3, 0, 1]))), both)

    def test_no_real_root(self):
        for p in ([1], [-3], ["2/7"], [1, 0, 1], [-1, -1, -1], [1, 0, 0, 0, 0, 0, 0, 0, 1], [1, 0, 2, 0, 1]):
            self.check(p)

    def test_zero(self):
        self.assertEqual(cells([]), [9, 2])

    def test_more_than_once(self):
        self.check(with_roots(1, 1, 1), (1, 1))
        self.check([0] * 8 + [-3], (0, 0))
        self.check(with_roots("1/3", "1/3", 1, 1), (0, Fraction(1, 2)), (1, 1))
        self.check(product([-2, 0, 1], [-2, 0, 1], [-2, 0, 1]), (-2, -1), (1, 2))
        self.check(product([1, 0, 1], [1, 0, 1], [-5, 0, 0, 1]), (1, 2))

    def test_exact_ones(self):
        self.check(with_roots("3/4", "-5/8", 7), (Fraction(-5, 8),) * 2, (Fraction(3, 4),) * 2, (7, 7))
        self.check([-1, 65536], (Fraction(1, 65536),) * 2)
        self.check([-1, 524288], (Fraction(1, 524288),) * 2)
        self.check([3, 524288], (Fraction(-3, 524288),) * 2)
        self.check(["-1/3", "1/3"], (1, 1))
        self.check(["-1/6", "2/3"], (Fraction(1, 4),) * 2)
        # In one whole part with an exact one, and not exact itself.
        self.check(product([0, 1], [1, -3, 0, 1]), (-2, -1), (0, 0), (Fraction(1, 4), Fraction(1, 2)), (1, 2))

    def test_exact_one_on_an_end(self):
        self.check(with_roots(1, "4/3"), (1, 1), (Fraction(5, 4), Fraction(3, 2)))
        self.check(with_roots(2, "4/3"), (1, Fraction(3, 2)), (2, 2))
        self.check(with_roots(1, 2, "4/3"), (1, 1), (Fraction(5, 4), Fraction(3, 2)), (2, 2))
        self.check(with_roots("3/2", "4/3"), (Fraction(5, 4), Fraction(11, 8)), (Fraction(3, 2),) * 2)
        self.check(product([-1, 1], [-2, 0, 1]), (-2, -1), (1, 1), (Fraction(5, 4), Fraction(3, 2)))
        self.check(product([1, 1], [-2, 0, 1]), (Fraction(-3, 2), Fraction(-5, 4)), (-1, -1), (1, 2))
        self.check(product([0, 1], [-1, 3]), (0, 0), (Fraction(1, 4), Fraction(1, 2)))
        self.check(product([0, 1], [1, 3]), (Fraction(-1, 2), Fraction(-1, 4)), (0, 0))

    def test_cells_that_touch(self):
        # One end is shared by two cells, but no root lies on it.
        self.check(with_roots("1/3", "4/3"), (0, 1), (1, 2))
        self.check(with_roots("1/3", "2/3"), (0, Fraction(1, 2)), (Fraction(1, 2), 1))

    def test_each_has_its_own_n(self):
        self.check(with_roots("1/3", "2/3", "7/3"), (0, Fraction(1, 2)), (Fraction(1, 2), 1), (2, 3))
        third, fifth = Fraction(1, 3), Fraction(7, 5)
        near = (Fraction(5, 16), Fraction(11, 32)), (Fraction(11, 32), Fraction(3, 8))
        self.check(with_roots(third, "5/14", fifth), *near, (1, 2))

    def test_below_zero(self):
        self.check([1, 3], (-1, 0))
        self.check([4, 3], (-2, -1))
        self.check(with_roots("-1/3", "-2/3"), (-1, Fraction(-1, 2)), (Fraction(-1, 2), 0))
        self.check([5, 0, 0, 1], (-2, -1))

    def test_broken_and_leads_below_zero(self):
        self.check(["1/2", "1/3"], (Fraction(-3, 2),) * 2)
        self.check(["2/3", 0, "-1/3"], (-2, -1), (1, 2))
        self.check(["-3/7", "2/5"], (1, 2))
        self.check(["5/9", "-5/3", "10/9"], (Fraction(1, 2),) * 2, (1, 1))

    def test_very_near(self):
        # x^4 and (999 x - 1) differ by the sign alone: two roots near 1/999, some 10 to the -15 from it.
        p = [-1, 1998, -999 ** 2, 0, 0, 0, 0, 0, 1]
        found = cells(flat(*p))
        self.assertEqual(found, expected_cells(p))
        self.assertEqual(found[1], 4)
        self.assertGreater(found[9], 2 ** 40)
        for p in (with_roots("700/699", "699/698"), with_roots("1/998", "1/999"), with_roots("-1/998", "-1/999", 0)):
            self.assertEqual(cells(flat(*p)), expected_cells(p))
        p = [-1, 1998, -999 ** 2, 0, 0, 0, 0, 0, f"1/{BIG}"]
        found = cells(flat(*p))
        self.assertEqual(found, expected_cells(p))
        self.assertGreater(found[9], 2 ** 50)

    def test_great_size(self):
        self.check([-BIG, f"1/{BIG}"], (BIG ** 2, BIG ** 2))
        self.check([BIG, f"1/{BIG}"], (-BIG ** 2, -BIG ** 2))
        self.check([-BIG, "2/999997"], (Fraction(BIG * 999997, 2),) * 2)
        third = 999997 * 999998 // 3
        self.check([-999997, "3/999998"], (third, third + 1))
        self.check([-BIG, 0, f"1/{BIG}"], (-BIG, -BIG), (BIG, BIG))
        self.check([-BIG, 0, 1], (-1000, -999), (999, 1000))
        self.check([1, -BIG, f"1/{BIG}"], (0, 1), (BIG ** 2 - 1, BIG ** 2))

    def test_eight_roots(self):
        # The polynomial whose value at cos(v) is cos(8 v).
        p = [1, 0, -32, 0, 160, 0, -256, 0, 128]
        found = cells(flat(*p))
        self.assertEqual(found[1], 8)
        self.assertEqual(found, expected_cells(p))
        self.check(with_roots(-4, -3, -2, -1, 1, 2, 3, 4), *[(k, k) for k in (-4, -3, -2, -1, 1, 2, 3, 4)])

    def test_all_samples(self):
        for p in SAMPLES[1:]:
            self.assertEqual(cells(flat(*p)), expected_cells(p))

    def test_products(self):
        factors = [[-2, 0, 1], [-3, 0, 1], [1, -3, 0, 1], [-1, 3], [0, 1], [-7, 5], [1, 1, 1], ["-1/2", "7/4", "-4/3"]]
        for chosen in combinations_with_replacement(factors, 3):
            p = product(*chosen)
            if len(p) <= 9:
                self.assertEqual(cells(flat(*p)), expected_cells(p))


if __name__ == "__main__":
    unittest.main()
