"""The calls: each takes whole numbers and lists of them, and gives back a list of whole numbers."""

from rootnumbers.handed import answered, coefficients_of, is_fraction, is_polynomial, polynomial_told, refused
from rootnumbers.poly import common_divisor, derivative, part, poly_difference, poly_product, poly_sum
from rootnumbers.poly import quotient_and_rest, square_free_part, value_at


def two(op, p, q):
    """0 p + q; 1 p - q; 2 p q; 3 the quotient; 4 the rest; 5 the common divisor."""
    if op > 5 or not is_polynomial(p) or not is_polynomial(q):
        return refused(1)
    if q == [] and op in (3, 4):
        return refused(2)
    return answered(polynomial_told(of_two(op, coefficients_of(p), coefficients_of(q))))


def of_two(op, p, q):
    if op == 0:
        return poly_sum(p, q)
    if op == 1:
        return poly_difference(p, q)
    if op == 2:
        return poly_product(p, q)
    if op == 3:
        return quotient_and_rest(p, q)[0]
    if op == 4:
        return quotient_and_rest(p, q)[1]
    return common_divisor(p, q)


def one(op, p):
    """0 the derivative; 1 the part; 2 the square-free part."""
    if op > 2 or not is_polynomial(p):
        return refused(1)
    if p == [] and op in (1, 2):
        return refused(2)
    return answered(polynomial_told(of_one(op, coefficients_of(p))))


def of_one(op, p):
    if op == 0:
        return derivative(p)
    if op == 1:
        return part(p)
    return square_free_part(p)


def at(top, bottom, p):
    """The value of p at the fraction top over bottom."""
    if not is_fraction(top, bottom) or not is_polynomial(p):
        return refused(1)
    return answered(list(value_at(coefficients_of(p), (top, bottom))))
