"""What is handed in stays as it was, and nothing is kept from one call to the next."""

import unittest

from rootnumbers.roots import at, cells, compare, count, digits, fraction, minus, one, reckon, resultant, root, rows
from rootnumbers.roots import sign, two
from tests.helper import SAMPLES, flat


def forbidden(*arguments, **words):
    raise AssertionError("a list that was handed in is changed")


class Watched(list):
    """A list that cannot be changed, not for a while either."""

    append = extend = insert = pop = remove = clear = reverse = sort = forbidden
    __setitem__ = __delitem__ = __iadd__ = __imul__ = forbidden


LISTS = [flat(*p) for p in SAMPLES] + [[0, 1], [2, 4], [1, 0], [1, 1] * 10, [1000000, 1], [1, 1, 0, 1]]


def calls():
    """Each call as a function of the lists handed in, and how many lists it takes."""
    for op in range(7):
        yield 2, lambda p, q, op=op: two(op, p, q)
    for op in range(4):
        yield 1, lambda p, op=op: one(op, p)
    for top, bottom in ((0, 1), (-2, 3), (2, 4), (1, 0)):
        yield 1, lambda p, top=top, bottom=bottom: at(top, bottom, p)
        yield 1, lambda p, top=top, bottom=bottom: count(-5, 1, top, bottom, p)
        yield 1, lambda p, top=top, bottom=bottom: count(top, bottom, 5, 1, p)
    yield 2, resultant
    yield 1, rows
    yield 1, cells
    for op in range(5):
        yield 2, lambda x, y, op=op: reckon(op, 0, 0, x, y)
    for which in (0, 1, 1001):
        yield 1, lambda x, which=which: minus(which, x)
        yield 1, lambda x, which=which: root(which, x)
        yield 1, lambda x, which=which: fraction(which, x)
        yield 1, lambda x, which=which: digits(which, 20, x)
        yield 2, lambda p, x, which=which: sign(which, p, x)
    yield 2, lambda x, y: compare(0, 0, x, y)


def every_case():
    for size, call in calls():
        for p in LISTS:
            for rest in ([[q] for q in LISTS] if size == 2 else [[]]):
                yield call, [p] + rest


class Kept(unittest.TestCase):
    def test_same_after_as_before(self):
        for call, lists in every_case():
            handed = [list(numbers) for numbers in lists]
            call(*handed)
            self.assertEqual(handed, lists)

    def test_not_changed_for_a_while(self):
        for call, lists in every_case():
            call(*[Watched(numbers) for numbers in lists])

    def test_one_list_handed_in_twice(self):
        for op in range(6):
            for numbers in LISTS:
                both = list(numbers)
                self.assertEqual(two(op, both, both), two(op, list(numbers), list(numbers)))
                self.assertEqual(both, numbers)
        for numbers in LISTS:
            both = list(numbers)
            self.assertEqual(resultant(both, both), resultant(list(numbers), list(numbers)))
            self.assertEqual(both, numbers)

    def test_one_number_handed_in_twice(self):
        for op in range(4):
            for numbers in LISTS:
                both = list(numbers)
                self.assertEqual(reckon(op, 0, 0, both, both), reckon(op, 0, 0, list(numbers), list(numbers)))
                self.assertEqual(both, numbers)

        for numbers in LISTS:
            both = list(numbers)
            self.assertEqual(compare(0, 0, both, both), compare(0, 0, list(numbers), list(numbers)))
            self.assertEqual(sign(0, both, both), sign(0, list(numbers), list(numbers)))
            self.assertEqual(both, numbers)

    def test_nothing_is_kept(self):
        for call, lists in every_case():
            answer = call(*lists)
            first = list(answer)
            answer.append(77)
            answer[0] = 55
            self.assertEqual(call(*lists), first)

    def test_answers_are_whole_numbers(self):
        for call, lists in every_case():
            answer = call(*lists)
            self.assertIs(type(answer), list)
            self.assertTrue(all(type(number) is int for number in answer))


if __name__ == "__main__":
    unittest.main()
