"""The calls: each takes whole numbers and lists of them, and gives back a list of whole numbers."""

from rootnumbers.handed import answered, coefficients_of, is_fraction, is_polynomial, polynomial_told, refused
from rootnumbers.poly import common_divisor, content, derivative, of_whole, part, poly_difference, poly_product
from rootnumbers.poly import poly_resultant, poly_sum, quotient_and_rest, square_free_part, value_at, whole_part
from rootnumbers.real import roots_upto, sturm_chain
from rootnumbers.whole import rows_of


def two(op, p, q):
    """0 p + q; 1 p - q; 2 p q; 3 the quotient; 4 the rest; 5 the common divisor."""
    if op > 5 or not is_polynomial(p) or not is_polynomial(q):
        return refused(1)
    if q == [] and op in (3, 4):
        return refused(2)
    return answered(polynomial_told(of_two(op, coefficients_of(p), coefficients_of(q))))


def of_two(op, p, q):
    if op == 0:
        return poly_sum(p, q)
    if op == 1:
        return poly_difference(p, q)
    if op == 2:
        return poly_product(p, q)
    if op == 3:
        return quotient_and_rest(p, q)[0]
    if op == 4:
        return quotient_and_rest(p, q)[1]
    return common_divisor(p, q)


def one(op, p):
    """0 the derivative; 1 the part; 2 the square-free part."""
    if op > 2 or not is_polynomial(p):
        return refused(1)
    if p == [] and op in (1, 2):
        return refused(2)
    return answered(polynomial_told(of_one(op, coefficients_of(p))))


def of_one(op, p):
    if op == 0:
        return derivative(p)
    if op == 1:
        return part(p)
    return square_free_part(p)


def at(top, bottom, p):
    """The value of p at the fraction top over bottom."""
    if not is_fraction(top, bottom) or not is_polynomial(p):
        return refused(1)
    return answered(list(value_at(coefficients_of(p), (top, bottom))))


def resultant(p, q):
    """The resultant of p and q."""
    if not is_polynomial(p) or not is_polynomial(q):
        return refused(1)
    return answered(list(poly_resultant(coefficients_of(p), coefficients_of(q))))


def rows(p):
    """The fraction, how many f are told, and of each k and f."""
    if not is_polynomial(p):
        return refused(1)
    if p == []:
        return refused(2)
    base = coefficients_of(p)
    found = rows_of(whole_part(base))
    told = list(content(base)) + [len(found)]
    for k, row in found:
        told.append(k)
        told.extend(polynomial_told(of_whole(row)))
    return answered(told)


def count(a_top, a_bottom, b_top, b_bottom, p):
    """How many real roots of p lie above a and not above b."""
    if not is_fraction(a_top, a_bottom) or not is_fraction(b_top, b_bottom) or not is_polynomial(p):
        return refused(1)
    if p == []:
        return refused(2)
    chain = sturm_chain(coefficients_of(p))
    upto_a = roots_upto(chain, (a_top, a_bottom))
    upto_b = roots_upto(chain, (b_top, b_bottom))
    # Below 0 where b is below a and roots lie between.
    return answered([max(0, upto_b - upto_a)])
