"""Real roots of square-free polynomials with whole coefficients, counted by their chains of remainders."""

from rootnumbers.poly import whole_part
from rootnumbers.whole import remainder_chain, sign_of, square_free, value_sign, whole_derivative


def sturm_chain(p):
    """The chain of remainders of p's square-free part and its derivative; p (not 0) has fractions."""
    base = square_free(whole_part(p))
    return remainder_chain(base, whole_derivative(base))


def changes(signs):
    """How often the sign changes along the row, zeros left out."""
    seen = [sign for sign in signs if sign != 0]
    return len([k for k in range(1, len(seen)) if seen[k - 1] != seen[k]])


def far_below(p):
    """The sign of p's values below all its roots."""
    sign = sign_of(p[-1])
    return sign if len(p) % 2 == 1 else -sign


def roots_upto(chain, place):
    """How many real roots of the chain's first polynomial are not above place."""
    first = changes([far_below(p) for p in chain])
    return first - changes([value_sign(p, place) for p in chain])
