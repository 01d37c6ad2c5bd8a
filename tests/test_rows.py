"""rows: a polynomial by how often its roots stand."""

import unittest
from fractions import Fraction

from rootnumbers.roots import rows
from tests.helper import BIG, SAMPLES, common, flat, is_primitive, is_square_free, product, read, told, with_roots


def answer(fraction, *found):
    """The answer with this fraction and these pairs of k and f."""
    result = [0] + flat(fraction) + [len(found)]
    for k, f in found:
        result += [k] + told(*f)[1:]
    return result


def taken_apart(numbers):
    """The fraction and the pairs of k and f of an answer."""
    fraction = read([0, 1] + numbers[1:3])[0]
    found = []
    place = 4
    while place < len(numbers):
        end = place + 2 + 2 * numbers[place + 1]
        found.append((numbers[place], read([0] + numbers[place + 1:end])))
        place = end
    assert len(found) == numbers[3], numbers
    return fraction, found


class Rows(unittest.TestCase):
    def check(self, p, fraction, *found):
        self.assertEqual(rows(flat(*p)), answer(fraction, *found))

    def test_examples(self):
        self.assertEqual(rows([-1, 1, 3, 1, -3, 1, 1, 1]), [0, 1, 1, 1, 3, 2, -1, 1, 1, 1])
        self.assertEqual(rows([-4, 1, 0, 1, 4, 1]), [0, 4, 1, 1, 1, 3, -1, 1, 0, 1, 1, 1])

    def test_constants(self):
        self.assertEqual(rows([5, 1]), [0, 5, 1, 0])
        self.assertEqual(rows([-5, 1]), [0, -5, 1, 0])
        self.assertEqual(rows([1, 1]), [0, 1, 1, 0])
        self.assertEqual(rows([-3, 7]), [0, -3, 7, 0])
        self.assertEqual(rows([BIG, BIG - 1]), [0, BIG, BIG - 1, 0])

    def test_of_zero(self):
        self.assertEqual(rows([]), [9, 2])

    def test_square_free(self):
        self.check([-2, 0, 1], 1, (1, [-2, 0, 1]))
        self.check([4, 0, -6], -2, (1, [-2, 0, 3]))
        self.check(["1/2", "-1/3"], "-1/6", (1, [-3, 2]))
        self.check([0, "4/9"], "4/9", (1, [0, 1]))
        self.check([1] * 9, 1, (1, [1] * 9))

    def test_more_than_once(self):
        self.check(with_roots(2, 2), 1, (2, [-2, 1]))
        self.check([0, 0, 0, 0, 0, 0, 0, 0, -6], -6, (8, [0, 1]))
        self.check(product(with_roots(1, 1, 1, 5), [-2]), -2, (1, [-5, 1]), (3, [-1, 1]))
        self.check(with_roots(0, 1, 1, -2, -2, -2), 1, (1, [0, 1]), (2, [-1, 1]), (3, [2, 1]))
        self.check(with_roots(1, 1, 2, 2), 1, (2, [2, -3, 1]))

    def test_rows_between_that_are_one(self):
        self.check(with_roots(1, 1, 3, 3, 3, 3, 3), 1, (2, [-1, 1]), (5, [-3, 1]))
        self.check(with_roots(7, *[-1] * 7), 1, (1, [-7, 1]), (7, [1, 1]))
        self.check(with_roots(*[4] * 4), 1, (4, [-4, 1]))

    def test_broken_and_below_zero(self):
        p = product(with_roots("1/2", "1/2", "-1/3"), ["-7/5"])
        self.check(p, "-7/60", (1, [1, 3]), (2, [-1, 2]))
        p = product(with_roots("2/3", "2/3", "2/3"), [-27])
        self.check(p, -1, (3, [-2, 3]))

    def test_roots_that_are_no_fractions(self):
        p = product([-2, 0, 1], [-2, 0, 1], [-2, 0, 1], [1, 1, 1], ["3/4"])
        self.check(p, "3/4", (1, [1, 1, 1]), (3, [-2, 0, 1]))
        p = product([1, 0, 1], [1, 0, 1], [-3, 0, 1], [-3, 0, 1])
        self.check(p, 1, (2, [-3, 0, -2, 0, 1]))

    def test_they_make_the_polynomial(self):
        bases = [[0, 1], [-1, 1], [2, -3], ["1/2", "1/3"], [-2, 0, 1], [1, 0, 1], [5, 1, -1]]
        cases = [list(p) for p in SAMPLES[1:]]
        for f in bases:
            for g in bases:
                for k, m in ((1, 2), (2, 1), (2, 2), (3, 1), (1, 3), (4, 1)):
                    p = product(*[f] * k, *[g] * m, ["-6/5"])
                    if len(p) <= 9:
                        cases.append(p)
        for p in cases:
            fraction, found = taken_apart(rows(flat(*p)))
            whole = product([fraction], *[f for k, f in found for step in range(k)])
            self.assertEqual(whole, [Fraction(a) for a in p])
            self.assertEqual([k for k, f in found], sorted({k for k, f in found}))
            for k, f in found:
                self.assertGreater(len(f), 1)
                self.assertTrue(is_primitive(f) and is_square_free(f))
                self.assertTrue(all(g == f or len(common(f, g)) == 1 for m, g in found))


if __name__ == "__main__":
    unittest.main()
