"""Fractions: pairs of a numerator and a denominator above 0, in lowest terms."""

ZERO = (0, 1)


def whole_divisor(a, b):
    """The greatest whole number that divides both; of 0 and 0 it is 0."""
    left = abs(a)
    right = abs(b)
    while right != 0:
        rest = left % right
        left = right
        right = rest
    return left


def lowest(top, bottom):
    """The fraction top over bottom; bottom is not 0."""
    divisor = whole_divisor(top, bottom)
    if bottom < 0:
        divisor = -divisor
    return (top // divisor, bottom // divisor)


def added(a, b):
    return lowest(a[0] * b[1] + b[0] * a[1], a[1] * b[1])


def less(a, b):
    return lowest(a[0] * b[1] - b[0] * a[1], a[1] * b[1])


def times(a, b):
    return lowest(a[0] * b[0], a[1] * b[1])


def over(a, b):
    """a divided by b; b is not 0."""
    return lowest(a[0] * b[1], a[1] * b[0])
