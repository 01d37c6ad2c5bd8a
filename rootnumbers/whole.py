"""Polynomials with whole coefficients: lists from the constant on, the last not 0; the empty list is 0."""

from rootnumbers.ratio import whole_divisor, whole_power


def trimmed(coefficients, zero):
    """A copy without the zeros at its end."""
    size = len(coefficients)
    while size > 0 and coefficients[size - 1] == zero:
        size = size - 1
    return coefficients[:size]


def primitive(p):
    """The primitive polynomial that p (not 0) is a multiple of."""
    divisor = 0
    for a in p:
        divisor = whole_divisor(divisor, a)
    if p[-1] < 0:
        divisor = -divisor
    return [a // divisor for a in p]


def whole_derivative(p):
    return [k * a for k, a in enumerate(p)][1:]


def scaled_rest(p, q):
    """The rest by q of p times the size of q's lead, once for each step of the division: so it stays whole."""
    rest = list(p)
    size = abs(q[-1])
    for shift in range(len(p) - len(q), -1, -1):
        factor = rest[shift + len(q) - 1]
        if q[-1] < 0:
            factor = -factor
        rest = [size * a for a in rest]
        for k, b in enumerate(q):
            rest[shift + k] = rest[shift + k] - factor * b
    return trimmed(rest, 0)


def remainder_chain(p, q):
    """p, q, and then always what is above 0 times minus the rest of the two before, till that is 0.

    q is 0 or of p's degree at most. The divisors are those of the subresultants, which are known to go in without a
    rest: so the coefficients stay small, and no common divisor of them is looked for.
    """
    chain = [p]
    left = p
    right = q
    lead = 1
    height = 1
    while right != []:
        chain.append(right)
        gap = len(left) - len(right)
        divisor = lead * whole_power(height, gap)
        rest = scaled_rest(left, right)
        left = right
        right = [-(a // divisor) for a in rest]
        lead = abs(left[-1])
        if gap > 0:
            height = whole_power(lead, gap) // whole_power(height, gap - 1)
    return chain


def whole_common_divisor(p, q):
    """The primitive common divisor of p (not 0) and q, which is 0 or of p's degree at most."""
    return primitive(remainder_chain(p, q)[-1])


def exact_quotient(p, q):
    """p over q, where both are primitive and q divides p: then the quotient is primitive too."""
    rest = list(p)
    quotient = [0] * (len(p) - len(q) + 1)
    for shift in range(len(p) - len(q), -1, -1):
        factor = rest[shift + len(q) - 1] // q[-1]
        quotient[shift] = factor
        for k, b in enumerate(q):
            rest[shift + k] = rest[shift + k] - factor * b
    return quotient


def square_free(p):
    """The square-free part of p, which is not 0."""
    base = primitive(p)
    return exact_quotient(base, whole_common_divisor(base, whole_derivative(base)))


def rows_of(p):
    """For each k for which some root of the primitive p stands k times: k and the polynomial of these roots."""
    told = []
    rest = p
    # The roots that stand k times or more often.
    often = square_free(p)
    k = 1
    while len(often) > 1:
        rest = exact_quotient(rest, often)
        more_often = square_free(rest)
        row = exact_quotient(often, more_often)
        if len(row) > 1:
            told.append((k, row))
        often = more_often
        k = k + 1
    return told


def value_sign(p, place):
    """-1, 0 or 1, as p's value at place is; place is a fraction, but need not be in lowest terms."""
    value = 0
    scale = 1
    # The value times a power of the denominator, which is above 0.
    for a in reversed(p):
        value = value * place[0] + a * scale
        scale = scale * place[1]
    return sign_of(value)


def sign_of(number):
    """-1, 0 or 1, as the whole number is."""
    if number == 0:
        return 0
    return 1 if number > 0 else -1
