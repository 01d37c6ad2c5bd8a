"""What the tests share: polynomials as lists of Fraction, reckoned apart from the program."""

from fractions import Fraction
from math import gcd

BIG = 999999


def flat(*coefficients):
    """The list in which a polynomial is handed in, constant first; each a whole number, a text '1/2' or a Fraction."""
    numbers = []
    for coefficient in coefficients:
        fraction = Fraction(coefficient)
        numbers += [fraction.numerator, fraction.denominator]
    return numbers


def told(*coefficients):
    """The list in which a polynomial is answered."""
    return [0, len(coefficients)] + flat(*coefficients)


def product(*factors):
    """The product of polynomials that are lists of coefficients; [] is 0."""
    if [] in factors:
        return []
    result = [Fraction(1)]
    for factor in factors:
        longer = [Fraction(0)] * (len(result) + len(factor) - 1)
        for i, a in enumerate(result):
            for k, b in enumerate(factor):
                longer[i + k] += a * Fraction(b)
        result = longer
    return result


def with_roots(*roots):
    """The polynomial with lead 1 that has these roots, each as often as it is named."""
    return product(*[[-Fraction(root), 1] for root in roots])


def total(p, q):
    """The sum of two polynomials, without zeros at its end."""
    size = max(len(p), len(q))
    result = [Fraction(0)] * size
    for k, a in enumerate(p):
        result[k] += Fraction(a)
    for k, b in enumerate(q):
        result[k] += Fraction(b)
    while result and result[-1] == 0:
        result.pop()
    return result


def value(p, place):
    """The value of a polynomial at a fraction."""
    return sum([Fraction(a) * Fraction(place) ** k for k, a in enumerate(p)], Fraction(0))


def common(p, q):
    """The common divisor of two polynomials, with lead 1; of 0 and 0 it is 0."""
    left, right = [Fraction(a) for a in p], [Fraction(a) for a in q]
    while right:
        while len(left) >= len(right):
            shifted = [Fraction(0)] * (len(left) - len(right)) + right
            left = total(left, product(shifted, [-left[-1] / right[-1]]))
        left, right = right, left
    return [a / left[-1] for a in left]


def is_square_free(p):
    return len(common(p, [k * Fraction(a) for k, a in enumerate(p)][1:])) == 1


def is_primitive(p):
    fractions = [Fraction(a) for a in p]
    whole = all(a.denominator == 1 for a in fractions)
    return whole and gcd(*[a.numerator for a in fractions]) == 1 and fractions[-1] > 0


def read(answer):
    """The polynomial of an answer that is one, as a list of Fraction; it must be in its one form."""
    assert answer[0] == 0 and len(answer) == 2 + 2 * answer[1], answer
    assert all(type(number) is int for number in answer), answer
    pairs = list(zip(answer[2::2], answer[3::2]))
    result = [Fraction(top, bottom) for top, bottom in pairs]
    assert pairs == [(a.numerator, a.denominator) for a in result], answer
    assert not result or result[-1] != 0, answer
    return result


# Polynomials of many shapes: 0, constants, whole and broken coefficients, leads below 0, the most coefficients.
SAMPLES = [
    [],
    [1],
    [-7],
    ["3/4"],
    [0, 1],
    [5, -1],
    ["1/2", "-2/3"],
    [-2, 0, 1],
    [1, -3, 2],
    ["-5/6", 0, "7/10"],
    [0, 0, 0, 4],
    [-1, 3, -3, 1],
    ["2/9", "-1/3", 0, "8/27", "-1/5"],
    [1, 0, -10, 0, 1],
    [BIG, -BIG, BIG, -BIG, BIG],
    ["1/999999", "1/999998", "-1/999997"],
    [1, 2, 3, 4, 5, 6, 7, 8, 9],
    ["999999/999998", "-999997/999996", 0, "999995/999994", 1, 0, "-1/999993", 2, "999991/999990"],
]
