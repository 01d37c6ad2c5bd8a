"""Fractions: pairs of a numerator and a denominator above 0, in lowest terms."""

ZERO = (0, 1)
ONE = (1, 1)


def whole_divisor(a, b):
    """The greatest whole number that divides both; of 0 and 0 it is 0."""
    left = abs(a)
    right = abs(b)
    while right != 0:
        rest = left % right
        left = right
        right = rest
    return left


def whole_power(base, exponent):
    """A whole number to an exponent from 0 on."""
    power = 1
    for step in range(exponent):
        power = power * base
    return power


def lowest(top, bottom):
    """The fraction top over bottom; bottom is not 0."""
    divisor = whole_divisor(top, bottom)
    if bottom < 0:
        divisor = -divisor
    return (top // divisor, bottom // divisor)


def added(a, b):
    return lowest(a[0] * b[1] + b[0] * a[1], a[1] * b[1])


def less(a, b):
    return lowest(a[0] * b[1] - b[0] * a[1], a[1] * b[1])


def times(a, b):
    return lowest(a[0] * b[0], a[1] * b[1])


def over(a, b):
    """a divided by b; b is not 0."""
    return lowest(a[0] * b[1], a[1] * b[0])


def negative(a):
    return (-a[0], a[1])


def raised(a, exponent):
    """a to an exponent from 0 on; powers of a fraction in lowest terms are so too."""
    return (whole_power(a[0], exponent), whole_power(a[1], exponent))
