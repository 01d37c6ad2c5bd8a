"""Polynomials: lists of fractions from the constant on, the last not 0; the empty list is 0."""

from rootnumbers.ratio import ZERO, added, less, over, times, whole_divisor


def trimmed(coefficients):
    """A copy without the zeros at its end."""
    size = len(coefficients)
    while size > 0 and coefficients[size - 1] == ZERO:
        size = size - 1
    return coefficients[:size]


def lengthened(p, size):
    """A copy with zeros at its end, up to size coefficients."""
    return p + [ZERO] * (size - len(p))


def poly_sum(p, q):
    size = max(len(p), len(q))
    return trimmed([added(a, b) for a, b in zip(lengthened(p, size), lengthened(q, size))])


def poly_difference(p, q):
    size = max(len(p), len(q))
    return trimmed([less(a, b) for a, b in zip(lengthened(p, size), lengthened(q, size))])


def poly_product(p, q):
    if p == [] or q == []:
        return []
    product = [ZERO] * (len(p) + len(q) - 1)
    for i, a in enumerate(p):
        for k, b in enumerate(q):
            product[i + k] = added(product[i + k], times(a, b))
    return product


def quotient_and_rest(p, q):
    """The pair of both; q is not 0."""
    rest = list(p)
    quotient = [ZERO] * max(0, len(p) - len(q) + 1)
    for shift in range(len(p) - len(q), -1, -1):
        factor = over(rest[shift + len(q) - 1], q[-1])
        quotient[shift] = factor
        for k, b in enumerate(q):
            rest[shift + k] = less(rest[shift + k], times(factor, b))
    return (quotient, trimmed(rest))


def content(p):
    """The fraction that p (not 0) is of its part; it has the sign of p's lead."""
    top = 0
    bottom = 1
    for numerator, denominator in p:
        top = whole_divisor(top, numerator)
        bottom = bottom // whole_divisor(bottom, denominator) * denominator
    # Each coefficient is in lowest terms, so no prime divides both top and bottom.
    return (top, bottom) if p[-1][0] > 0 else (-top, bottom)


def divided_by(p, number):
    """p over a fraction that is not 0."""
    return [over(a, number) for a in p]


def part(p):
    """The primitive polynomial of p, which is not 0."""
    return divided_by(p, content(p))


def common_divisor(p, q):
    """The common divisor, with lead 1; of 0 and 0 it is 0."""
    left = p
    right = q
    while right != []:
        rest = quotient_and_rest(left, right)[1]
        left = right
        # A fraction times the rest serves as well, and its part keeps the coefficients from growing with each step.
        right = rest if rest == [] else part(rest)
    return left if left == [] else divided_by(left, left[-1])


def derivative(p):
    return [times((k, 1), a) for k, a in enumerate(p)][1:]


def square_free_part(p):
    """The part of p (not 0) over the common divisor of p and its derivative."""
    return part(quotient_and_rest(p, common_divisor(p, derivative(p)))[0])


def value_at(p, place):
    value = ZERO
    # From the lead down, so that no power of the place is reckoned by itself.
    for a in reversed(p):
        value = added(times(value, place), a)
    return value
