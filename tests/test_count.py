"""count: how many real roots lie above a and not above b."""

import unittest
from fractions import Fraction

from rootnumbers.roots import count
from tests.helper import BIG, flat, product, with_roots


def counted(a, b, p):
    first, last = Fraction(a), Fraction(b)
    return count(first.numerator, first.denominator, last.numerator, last.denominator, flat(*p))


class Count(unittest.TestCase):
    def test_no_real_root(self):
        for p in ([1, 0, 1], [1, 1, 1], [-1, 0, "-1/2"], [1, 0, 2, 0, 1], [1, 0, 0, 0, 0, 0, 0, 0, 1]):
            self.assertEqual(counted(-BIG, BIG, p), [0, 0])

    def test_roots_that_are_no_fractions(self):
        p = [-2, 0, 1]
        self.assertEqual(counted(-2, 2, p), [0, 2])
        self.assertEqual(counted(0, 2, p), [0, 1])
        self.assertEqual(counted(-2, 0, p), [0, 1])
        self.assertEqual(counted(-1, 1, p), [0, 0])
        self.assertEqual(counted("577/408", 2, p), [0, 0])
        self.assertEqual(counted("1393/985", "577/408", p), [0, 1])

    def test_more_than_once_is_once(self):
        self.assertEqual(counted(-9, 9, with_roots(1, 1, 1)), [0, 1])
        self.assertEqual(counted(-9, 9, with_roots(1, 1, 2, -3, -3, 0)), [0, 4])
        self.assertEqual(counted(0, 9, product([-2, 0, 1], [-2, 0, 1], [-2, 0, 1], [1, 0, 1])), [0, 1])
        self.assertEqual(counted(-1, 1, [0] * 8 + [-5]), [0, 1])

    def test_just_at_an_end(self):
        for often in (1, 2, 3, 4):
            p = with_roots(*[1] * often, *["5/2"] * often)
            self.assertEqual(counted(0, 1, p), [0, 1])
            self.assertEqual(counted(1, 2, p), [0, 0])
            self.assertEqual(counted(1, "5/2", p), [0, 1])
            self.assertEqual(counted(0, "5/2", p), [0, 2])
            self.assertEqual(counted("5/2", 7, p), [0, 0])
            self.assertEqual(counted(0, "999998/999999", p), [0, 0])
            self.assertEqual(counted("999998/999999", 1, p), [0, 1])

    def test_b_not_above_a(self):
        p = with_roots(0, 1, 2)
        for place in (-1, 0, 1, "1/2", 2, 3):
            self.assertEqual(counted(place, place, p), [0, 0])
        self.assertEqual(counted(3, -1, p), [0, 0])
        self.assertEqual(counted(2, 0, p), [0, 0])
        self.assertEqual(counted("1/2", "1/3", p), [0, 0])
        self.assertEqual(counted(1, -1, [0, 0, 1]), [0, 0])

    def test_constants(self):
        for p in ([1], [-4], ["2/3"], [f"-1/{BIG}"]):
            self.assertEqual(counted(-BIG, BIG, p), [0, 0])
            self.assertEqual(counted(0, 0, p), [0, 0])
            self.assertEqual(counted(BIG, -BIG, p), [0, 0])

    def test_zero(self):
        for a, b in ((0, 1), (0, 0), (1, 0), (-BIG, BIG), ("1/2", "1/3")):
            self.assertEqual(counted(a, b, []), [9, 2])

    def test_every_place_among_known_roots(self):
        cases = [
            [-3, "-1/2", 0, "1/3", 4],
            [-3, -3, "-1/2", 0, 0, "1/3", "1/3", 4],
            ["1/6", "1/5", "1/4", "1/3", "1/2", 1],
            ["1/7", "1/7", "-1/7"],
        ]
        places = [-BIG, -3, -1, "-1/2", "-1/4", 0, "1/7", "1/6", "9/50", "1/5", "1/4", "1/3", "1/2", 1, 4, 5, BIG]
        for roots in cases:
            known = {Fraction(root) for root in roots}
            for lead in ("1", "-2/3"):
                p = product(with_roots(*roots), [lead])
                for a in places:
                    for b in places:
                        expected = len([root for root in known if Fraction(a) < root <= Fraction(b)])
                        self.assertEqual(counted(a, b, p), [0, expected])

    def test_roots_very_near(self):
        p = with_roots("700/699", "699/698")
        self.assertEqual(counted(1, 2, p), [0, 2])
        self.assertEqual(counted("700/699", "699/698", p), [0, 1])
        self.assertEqual(counted(1, "700/699", p), [0, 1])
        self.assertEqual(counted("699/698", 2, p), [0, 0])
        # Near 1/999: two roots that differ by less than 10 to the -14.
        p = [-1, 1998, -999 ** 2, 0, 0, 0, 0, 0, 1]
        self.assertEqual(counted(0, 1, p), [0, 2])
        self.assertEqual(counted(0, "1/999", p), [0, 1])
        self.assertEqual(counted("1/999", 1, p), [0, 1])
        self.assertEqual(counted("1/1000", "1/998", p), [0, 2])

    def test_roots_of_great_size(self):
        p = [-BIG, f"1/{BIG}"]
        self.assertEqual(counted(-BIG, BIG, p), [0, 0])
        self.assertEqual(counted(0, BIG, [-BIG, 1]), [0, 1])
        self.assertEqual(counted(BIG - 1, BIG, [-BIG, 1]), [0, 1])
        self.assertEqual(counted(-BIG, BIG, [BIG, 1]), [0, 0])
        self.assertEqual(counted(0, f"1/{BIG}", [-1, BIG]), [0, 1])

    def test_many_roots_of_degree_eight(self):
        # The polynomial whose value at cos(v) is cos(8 v): eight roots, all between -1 and 1.
        p = [1, 0, -32, 0, 160, 0, -256, 0, 128]
        self.assertEqual(counted(-1, 1, p), [0, 8])
        self.assertEqual(counted(0, 1, p), [0, 4])
        self.assertEqual(counted("1/2", 1, p), [0, 3])
        self.assertEqual(counted("4/5", "9/10", p), [0, 1])


if __name__ == "__main__":
    unittest.main()
