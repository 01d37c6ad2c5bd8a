"""Polynomials: lists of fractions from the constant on, the last not 0; the empty list is 0."""

from rootnumbers.ratio import ONE, ZERO, added, less, negative, over, raised, times, whole_divisor
from rootnumbers.whole import square_free, trimmed, whole_common_divisor


def lengthened(p, size):
    """A copy with zeros at its end, up to size coefficients."""
    return p + [ZERO] * (size - len(p))


def poly_sum(p, q):
    size = max(len(p), len(q))
    return trimmed([added(a, b) for a, b in zip(lengthened(p, size), lengthened(q, size))], ZERO)


def poly_difference(p, q):
    size = max(len(p), len(q))
    return trimmed([less(a, b) for a, b in zip(lengthened(p, size), lengthened(q, size))], ZERO)


def poly_product(p, q):
    if p == [] or q == []:
        return []
    product = [ZERO] * (len(p) + len(q) - 1)
    for i, a in enumerate(p):
        for k, b in enumerate(q):
            product[i + k] = added(product[i + k], times(a, b))
    return product


def quotient_and_rest(p, q):
    """The pair of both; q is not 0."""
    rest = list(p)
    quotient = [ZERO] * max(0, len(p) - len(q) + 1)
    for shift in range(len(p) - len(q), -1, -1):
        factor = over(rest[shift + len(q) - 1], q[-1])
        quotient[shift] = factor
        for k, b in enumerate(q):
            rest[shift + k] = less(rest[shift + k], times(factor, b))
    return (quotient, trimmed(rest, ZERO))


def content(p):
    """The fraction that p (not 0) is of its part; it has the sign of p's lead."""
    top = 0
    bottom = 1
    for numerator, denominator in p:
        top = whole_divisor(top, numerator)
        bottom = bottom // whole_divisor(bottom, denominator) * denominator
    # Each coefficient is in lowest terms, so no prime divides both top and bottom.
    return (top, bottom) if p[-1][0] > 0 else (-top, bottom)


def divided_by(p, number):
    """p over a fraction that is not 0."""
    return [over(a, number) for a in p]


def whole_part(p):
    """The part of p (not 0), as whole coefficients."""
    return [top for top, bottom in divided_by(p, content(p))]


def of_whole(p):
    """A polynomial with whole coefficients as one with fractions."""
    return [(a, 1) for a in p]


def part(p):
    """The primitive polynomial of p, which is not 0."""
    return of_whole(whole_part(p))


def common_divisor(p, q):
    """The common divisor, with lead 1; of 0 and 0 it is 0."""
    longer = p if len(p) >= len(q) else q
    shorter = q if len(p) >= len(q) else p
    if longer == []:
        return []
    divisor = longer
    if shorter != []:
        divisor = of_whole(whole_common_divisor(whole_part(longer), whole_part(shorter)))
    return divided_by(divisor, divisor[-1])


def derivative(p):
    return [times((k, 1), a) for k, a in enumerate(p)][1:]


def whole_square_free_part(p):
    """The square-free part of p (not 0), as whole coefficients."""
    return square_free(whole_part(p))


def square_free_part(p):
    """The part of p (not 0) over the common divisor of p and its derivative."""
    return of_whole(whole_square_free_part(p))


def value_at(p, place):
    value = ZERO
    # From the lead down, so that no power of the place is reckoned by itself.
    for a in reversed(p):
        value = added(times(value, place), a)
    return value


def poly_resultant(p, q):
    """0 if one is 0; else p's lead to the degree of q, times the product of q's values at the roots of p."""
    if p == [] or q == []:
        return ZERO
    left = p
    right = q
    factor = ONE
    while len(right) > 1:
        rest = quotient_and_rest(left, right)[1]
        if rest == []:
            return ZERO
        # Left may change places with right, and then be replaced by its rest: it has the same values at right's roots.
        if len(left) % 2 == 0 and len(right) % 2 == 0:
            factor = negative(factor)
        factor = times(factor, raised(right[-1], len(left) - len(rest)))
        left = right
        # The rest's own fraction is told apart, which keeps the coefficients from growing with each step.
        factor = times(factor, raised(content(rest), len(left) - 1))
        right = part(rest)
    return times(factor, raised(right[0], len(left) - 1))
