"""compare: numbers in their order."""

import unittest

from rootnumbers.roots import compare, reckon
from tests.helper import BIG, flat, product, real_roots, square_free, with_roots

LESS, SAME, GREATER = range(3)
TWO = [-2, 0, 1]
NEAR = [-1, 1998, -999 ** 2, 0, 0, 0, 0, 0, 1]


class Compare(unittest.TestCase):
    def compared(self, x, y):
        return compare(x[1], y[1], flat(*x[0]), flat(*y[0]))

    def check(self, x, y, expected):
        self.assertEqual(self.compared(x, y), [0, expected])
        self.assertEqual(self.compared(y, x), [0, 2 - expected])

    def test_example(self):
        self.assertEqual(compare(1, 0, [-2, 1, 0, 1, 1, 1], [-3, 1, 2, 1]), [0, 0])

    def test_less_and_greater(self):
        self.check((TWO, 1), ([-3, 0, 1], 1), LESS)
        self.check((TWO, 0), ([-3, 0, 1], 0), GREATER)
        self.check((TWO, 0), (TWO, 1), LESS)
        self.check(([-1, 2], 0), ([-1, 3], 0), GREATER)
        self.check(([1, 2], 0), ([1, 3], 0), LESS)
        self.check(([0, 1], 0), ([-1, BIG], 0), LESS)
        self.check(([0, 1], 0), ([1, BIG], 0), GREATER)

    def test_the_same(self):
        self.check((TWO, 1), (TWO, 1), SAME)
        self.check((TWO, 0), ([4, 0, -2], 0), SAME)
        self.check((TWO, 1), (product(TWO, [-3, 0, 1]), 2), SAME)
        self.check((TWO, 1), (product(TWO, TWO, TWO), 1), SAME)
        self.check((product(TWO, TWO, [1, 1]), 2), (product(TWO, TWO, TWO, ["1/2", "1/3"]), 2), SAME)
        self.check((with_roots(1, 2), 0), (with_roots(0, 1, 1, 3), 1), SAME)
        self.check((with_roots("1/3", 7), 0), ([-1, 3], 0), SAME)
        self.check(([0, 1], 0), ([0, 0, 0, "-5/9"], 0), SAME)
        self.check(([0, 1, -1], 0), ([0, 5, 0, 5], 0), SAME)
        self.check(([-BIG, 1], 0), (["-1", f"1/{BIG}"], 0), SAME)
        # The square root of 2 over 2, and 1 over the square root of 2.
        told = reckon(3, 1, 0, flat(*TWO), flat(-2, 1))
        other = reckon(3, 0, 1, flat(-1, 1), flat(*TWO))
        self.assertEqual(compare(told[-1], other[-1], told[2:-1], other[2:-1]), [0, SAME])

    def test_common_roots_but_not_these(self):
        both = product(TWO, [-3, 0, 1])
        self.check((TWO, 1), (both, 3), LESS)
        self.check((TWO, 1), (both, 1), GREATER)
        self.check((TWO, 0), (both, 2), LESS)
        self.check((with_roots(1, 1, 2), 0), (with_roots(1, 2, 2), 1), LESS)

    def test_very_near(self):
        self.check((NEAR, 1), (NEAR, 2), LESS)
        self.check((NEAR, 1), ([-1, 999], 0), LESS)
        self.check((NEAR, 2), ([-1, 999], 0), GREATER)
        self.check((NEAR, 2), (product(NEAR, ["-1/7"]), 2), SAME)
        tighter = NEAR[:8] + [f"1/{BIG}"]
        self.check((NEAR, 1), (tighter, 1), LESS)
        self.check((NEAR, 2), (tighter, 2), GREATER)
        # These differ by some 10 to the -21.
        beside = NEAR[:8] + ["999998/999999"]
        self.check((NEAR, 1), (beside, 1), LESS)
        self.check((NEAR, 2), (beside, 2), GREATER)
        self.check((beside, 1), (beside, 2), LESS)
        self.check(([-BIG, -BIG, BIG], 1), ([-BIG, 1 - BIG, BIG], 1), GREATER)
        self.check(([-999998, 999999], 0), ([-999997, 999998], 0), GREATER)
        self.check((["-999998/999999", 0, 1], 1), (["-999997/999998", 0, 1], 1), GREATER)
        self.check((["-999998/999999"] + [0] * 7 + [1], 1), (["-999997/999998"] + [0] * 7 + [1], 1), GREATER)

    def test_fraction_and_no_fraction(self):
        self.check((TWO, 1), ([-577, 408], 0), LESS)
        self.check((TWO, 1), ([-1393, 985], 0), GREATER)
        self.check((TWO, 1), ([-665857, 470832], 0), LESS)
        self.check((TWO, 0), ([665857, 470832], 0), GREATER)
        self.check((TWO, 1), ([-941664, 665857], 0), GREATER)

    def test_great_ones(self):
        self.check(([-BIG, f"1/{BIG}"], 0), ([-BIG, 1], 0), GREATER)
        self.check(([BIG, f"1/{BIG}"], 0), ([BIG, 1], 0), LESS)
        self.check(([-BIG, f"1/{BIG}"], 0), ([1, -BIG, f"1/{BIG}"], 1), GREATER)

    def test_total(self):
        polynomials = [
            TWO, [-3, 0, 1], [1, -3, 0, 1], product(TWO, [-1, 1]), with_roots(1, 1, "1/3"), [-1, -1, 1], NEAR,
            [-1, 999], [1, 0, -10, 0, 1], [0, "1/2", "-1/3"], [-5, 1, 0, 0, 2], [1, 0, 1],
        ]
        numbers = []
        for p in polynomials:
            numbers += [(p, k, place) for k, place in enumerate(real_roots(square_free(p)))]
        for p, k, place in numbers:
            for q, j, other in numbers:
                expected = SAME if place == other else LESS if place < other else GREATER
                self.assertEqual(self.compared((p, k), (q, j)), [0, expected], (p, k, q, j))

    def test_degree_eight_both(self):
        p = ["999999/999998", "-999997/999996", 0, "999995/999994", 1, 0, "-1/999993", 2, "-999991/999990"]
        q = ["1/999999", "-999979/999978", "-999961/999960", 5, 0, 0, "999931/999930", -1, "999907/999906"]
        ours, theirs = real_roots(p), real_roots(q)
        self.assertTrue(ours and theirs)
        for k, place in enumerate(ours):
            for j, other in enumerate(theirs):
                self.check((p, k), (q, j), LESS if place < other else GREATER)
            for j, other in enumerate(ours):
                self.check((p, k), (p, j), SAME if k == j else LESS if k < j else GREATER)

    def test_no_number(self):
        good = (TWO, 1)
        none = [(TWO, 2), (TWO, 1000), ([], 0), ([1, 0, 1], 0), ([5], 0), (with_roots(1, 1, 1), 1)]
        for bad in none:
            self.assertEqual(self.compared(bad, good), [9, 3, 0])
            self.assertEqual(self.compared(good, bad), [9, 3, 1])
            for other in none:
                self.assertEqual(self.compared(bad, other), [9, 3, 0])

    def test_one_ahead_of_three(self):
        self.assertEqual(compare(1001, 0, [], []), [9, 1])
        self.assertEqual(compare(0, 1001, [], []), [9, 1])
        self.assertEqual(compare(5, 0, flat(*TWO), [1, 1, 0, 1]), [9, 1])


if __name__ == "__main__":
    unittest.main()
