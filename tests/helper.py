"""What the tests share: polynomials as lists of Fraction, reckoned apart from the program."""

from fractions import Fraction
from math import comb, gcd, lcm

BIG = 999999


def flat(*coefficients):
    """The list in which a polynomial is handed in, constant first; each a whole number, a text '1/2' or a Fraction."""
    numbers = []
    for coefficient in coefficients:
        fraction = Fraction(coefficient)
        numbers += [fraction.numerator, fraction.denominator]
    return numbers


def told(*coefficients):
    """The list in which a polynomial is answered."""
    return [0, len(coefficients)] + flat(*coefficients)


def product(*factors):
    """The product of polynomials that are lists of coefficients; [] is 0."""
    if [] in factors:
        return []
    result = [Fraction(1)]
    for factor in factors:
        longer = [Fraction(0)] * (len(result) + len(factor) - 1)
        for i, a in enumerate(result):
            for k, b in enumerate(factor):
                longer[i + k] += a * Fraction(b)
        result = longer
    return result


def with_roots(*roots):
    """The polynomial with lead 1 that has these roots, each as often as it is named."""
    return product(*[[-Fraction(root), 1] for root in roots])


def total(p, q):
    """The sum of two polynomials, without zeros at its end."""
    size = max(len(p), len(q))
    result = [Fraction(0)] * size
    for k, a in enumerate(p):
        result[k] += Fraction(a)
    for k, b in enumerate(q):
        result[k] += Fraction(b)
    while result and result[-1] == 0:
        result.pop()
    return result


def value(p, place):
    """The value of a polynomial at a fraction."""
    return sum([Fraction(a) * Fraction(place) ** k for k, a in enumerate(p)], Fraction(0))


def common(p, q):
    """The common divisor of two polynomials, with lead 1; of 0 and 0 it is 0."""
    left, right = [Fraction(a) for a in p], [Fraction(a) for a in q]
    while right:
        # Multiples do as well, and primitive ones stay small.
        right = primitive(right)
        while len(left) >= len(right):
            shift = len(left) - len(right)
            factor = left[-1] / right[-1]
            left = [a - factor * right[k - shift] if k >= shift else a for k, a in enumerate(left)]
            while left and left[-1] == 0:
                left.pop()
        left, right = right, left
    return [a / left[-1] for a in left]


def quotient(p, q):
    """p over q, which divides it."""
    rest, result = [Fraction(a) for a in p], []
    while len(rest) >= len(q):
        factor = rest[-1] / q[-1]
        result.insert(0, factor)
        shift = len(rest) - len(q)
        rest = [a - factor * q[k - shift] if k >= shift else a for k, a in enumerate(rest)][:-1]
    assert not any(rest)
    return result


def slope(p):
    """The derivative."""
    return [k * Fraction(a) for k, a in enumerate(p)][1:]


def is_square_free(p):
    return len(common(p, slope(p))) == 1


def is_primitive(p):
    return primitive(p) == [Fraction(a) for a in p]


def primitive(p):
    """The primitive polynomial of p, which is not 0."""
    fractions = [Fraction(a) for a in p]
    bottom = lcm(*[a.denominator for a in fractions])
    top = gcd(*[(a * bottom).numerator for a in fractions])
    scale = Fraction(bottom, top if fractions[-1] > 0 else -top)
    return [a * scale for a in fractions]


def square_free(p):
    """The square-free part of p, which is not 0."""
    return primitive(quotient(p, common(p, slope(p))))


def sign_at(p, place):
    """-1, 0 or 1, as the value at place is."""
    top, bottom = Fraction(place).as_integer_ratio()
    found, scale = 0, 1
    for a in reversed(p):
        found, scale = found * top + a * scale, scale * bottom
    return (found > 0) - (found < 0)


def real_roots(p, bits=120):
    """Where p crosses 0: the floors of these roots, counted in 2^-bits, rising; p (not 0) may touch 0 elsewhere.

    Between two places where the derivative crosses 0 a polynomial only rises or only falls: no chain is made.
    """
    if len(p) < 2:
        return []
    p = [a.numerator for a in primitive(p)]
    bound = 2 + max(abs(a) for a in p) // p[-1]
    places = [Fraction(-bound)] + real_roots(slope(p), bits) + [Fraction(bound)]
    found = [place for place in places if sign_at(p, place) == 0]
    for low, high in zip(places, places[1:]):
        if sign_at(p, low) * sign_at(p, high) < 0:
            first, last = int(low * 2 ** bits), int(high * 2 ** bits)
            rising = sign_at(p, high)
            while last - first > 1:
                middle = (first + last) // 2
                if sign_at(p, Fraction(middle, 2 ** bits)) * rising > 0:
                    last = middle
                else:
                    first = middle
            # What is just at last is a root there, and not one below it.
            found.append(Fraction(last if sign_at(p, Fraction(last, 2 ** bits)) == 0 else first, 2 ** bits))
    return sorted(set(found))


def power_sums(p, size):
    """The sums of the roots' powers from the 0th on, as many as size."""
    monic = [Fraction(a) / Fraction(p[-1]) for a in reversed(p)] + [Fraction(0)] * size
    degree = len(p) - 1
    sums = [Fraction(degree)]
    for k in range(1, size):
        sums.append(-sum([monic[i] * sums[k - i] for i in range(1, k)], Fraction(0)) - k * monic[k])
    return sums


def from_power_sums(sums, degree):
    """The polynomial with lead 1 whose roots have these sums of powers."""
    monic = [Fraction(1)]
    for k in range(1, degree + 1):
        monic.append(-sum([monic[i] * sums[k - i] for i in range(k)], Fraction(0)) / k)
    return monic[::-1]


def joined(op, p, q):
    """The square-free primitive polynomial of all sums, differences, products or quotients of roots of p and q."""
    left, right = square_free(p), square_free(q)
    if op == 1:
        right = [a * (-1) ** k for k, a in enumerate(right)]
    if op == 3:
        right = right[::-1]
        while right[-1] == 0:
            right.pop()
    degree = (len(left) - 1) * (len(right) - 1)
    ours, theirs = power_sums(left, degree + 1), power_sums(right, degree + 1)
    if op < 2:
        sums = [sum([comb(k, i) * ours[i] * theirs[k - i] for i in range(k + 1)]) for k in range(degree + 1)]
    else:
        sums = [a * b for a, b in zip(ours, theirs)]
    return square_free(from_power_sums(sums, degree))


def read(answer):
    """The polynomial of an answer that is one, as a list of Fraction; it must be in its one form."""
    assert answer[0] == 0 and len(answer) == 2 + 2 * answer[1], answer
    assert all(type(number) is int for number in answer), answer
    pairs = list(zip(answer[2::2], answer[3::2]))
    result = [Fraction(top, bottom) for top, bottom in pairs]
    assert pairs == [(a.numerator, a.denominator) for a in result], answer
    assert not result or result[-1] != 0, answer
    return result


# Polynomials of many shapes: 0, constants, whole and broken coefficients, leads below 0, the most coefficients.
SAMPLES = [
    [],
    [1],
    [-7],
    ["3/4"],
    [0, 1],
    [5, -1],
    ["1/2", "-2/3"],
    [-2, 0, 1],
    [1, -3, 2],
    ["-5/6", 0, "7/10"],
    [0, 0, 0, 4],
    [-1, 3, -3, 1],
    ["2/9", "-1/3", 0, "8/27", "-1/5"],
    [1, 0, -10, 0, 1],
    [BIG, -BIG, BIG, -BIG, BIG],
    ["1/999999", "1/999998", "-1/999997"],
    [1, 2, 3, 4, 5, 6, 7, 8, 9],
    ["999999/999998", "-999997/999996", 0, "999995/999994", 1, 0, "-1/999993", 2, "999991/999990"],
]
