"""The calls: each takes whole numbers and lists of them, and gives back a list of whole numbers."""

from rootnumbers.handed import answered, coefficients_of, is_fraction, is_polynomial, is_root, no_number, number_told
from rootnumbers.handed import polynomial_told, refused
from rootnumbers.joined import QUOTIENT, reckoned
from rootnumbers.ordered import order_of, sign_at_number
from rootnumbers.poly import common_divisor, content, derivative, of_whole, part, poly_difference, poly_product
from rootnumbers.poly import poly_resultant, poly_sum, quotient_and_rest, square_free_part, value_at, whole_part
from rootnumbers.poly import whole_square_free_part
from rootnumbers.ratio import ZERO, whole_power
from rootnumbers.real import cell_of, floor_of, fraction_of, how_many_roots, is_at, roots_upto, sturm_chain
from rootnumbers.single import is_below_zero, minus_of, square_root_of
from rootnumbers.whole import rows_of

# Where the polynomial told could be of a greater degree than this, a call is refused 4.
MOST_DEGREE = 16
MOST_BITS = 256


def two(op, p, q):
    """0 p + q; 1 p - q; 2 p q; 3 the quotient; 4 the rest; 5 the common divisor."""
    if op > 5 or not is_polynomial(p) or not is_polynomial(q):
        return refused(1)
    if q == [] and op in (3, 4):
        return refused(2)
    return answered(polynomial_told(of_two(op, coefficients_of(p), coefficients_of(q))))


def of_two(op, p, q):
    if op == 0:
        return poly_sum(p, q)
    if op == 1:
        return poly_difference(p, q)
    if op == 2:
        return poly_product(p, q)
    if op == 3:
        return quotient_and_rest(p, q)[0]
    if op == 4:
        return quotient_and_rest(p, q)[1]
    return common_divisor(p, q)


def one(op, p):
    """0 the derivative; 1 the part; 2 the square-free part."""
    if op > 2 or not is_polynomial(p):
        return refused(1)
    if p == [] and op in (1, 2):
        return refused(2)
    return answered(polynomial_told(of_one(op, coefficients_of(p))))


def of_one(op, p):
    if op == 0:
        return derivative(p)
    if op == 1:
        return part(p)
    return square_free_part(p)


def at(top, bottom, p):
    """The value of p at the fraction top over bottom."""
    if not is_fraction(top, bottom) or not is_polynomial(p):
        return refused(1)
    return answered(list(value_at(coefficients_of(p), (top, bottom))))


def resultant(p, q):
    """The resultant of p and q."""
    if not is_polynomial(p) or not is_polynomial(q):
        return refused(1)
    return answered(list(poly_resultant(coefficients_of(p), coefficients_of(q))))


def rows(p):
    """The fraction, how many f are told, and of each k and f."""
    if not is_polynomial(p):
        return refused(1)
    if p == []:
        return refused(2)
    base = coefficients_of(p)
    found = rows_of(whole_part(base))
    told = list(content(base)) + [len(found)]
    for k, row in found:
        told.append(k)
        told.extend(polynomial_told(of_whole(row)))
    return answered(told)


def count(a_top, a_bottom, b_top, b_bottom, p):
    """How many real roots of p lie above a and not above b."""
    if not is_fraction(a_top, a_bottom) or not is_fraction(b_top, b_bottom) or not is_polynomial(p):
        return refused(1)
    if p == []:
        return refused(2)
    chain = chain_of(p)
    upto_a = roots_upto(chain, (a_top, a_bottom))
    upto_b = roots_upto(chain, (b_top, b_bottom))
    # Below 0 where b is below a and roots lie between.
    return answered([max(0, upto_b - upto_a)])


def chain_of(p):
    """The chain of the square-free part of p, which is handed in and not 0."""
    return sturm_chain(whole_square_free_part(coefficients_of(p)))


def number_of(root_number, p):
    """The number of what is handed in, or None if there is none."""
    if p == []:
        return None
    chain = chain_of(p)
    return (chain, root_number) if root_number < how_many_roots(chain) else None


def cells(p):
    """How many real roots p has, and of each, rising, the two ends of its cell."""
    if not is_polynomial(p):
        return refused(1)
    if p == []:
        return refused(2)
    chain = chain_of(p)
    size = how_many_roots(chain)
    told = [size]
    for k in range(size):
        for end in cell_of((chain, k)):
            told.extend(list(end))
    return answered(told)


def reckon(op, x_root, y_root, x, y):
    """0 x + y; 1 x - y; 2 x y; 3 x / y."""
    if op > 3 or not is_root(x_root, x) or not is_root(y_root, y):
        return refused(1)
    x_number = number_of(x_root, x)
    if x_number is None:
        return no_number(0)
    y_number = number_of(y_root, y)
    if y_number is None:
        return no_number(1)
    if op == QUOTIENT and is_at(y_number, ZERO):
        return refused(2)
    if degree_of(x_number) * degree_of(y_number) > MOST_DEGREE:
        return refused(4)
    return answered(number_told(reckoned(op, x_number, y_number)))


def degree_of(number):
    """The degree of the square-free part of the number's polynomial."""
    return len(number[0][0]) - 1


def minus(x_root, x):
    """Minus x."""
    if not is_root(x_root, x):
        return refused(1)
    number = number_of(x_root, x)
    if number is None:
        return no_number(0)
    return answered(number_told(minus_of(number)))


def root(x_root, x):
    """The square root of x."""
    if not is_root(x_root, x):
        return refused(1)
    number = number_of(x_root, x)
    if number is None:
        return no_number(0)
    if is_below_zero(number):
        return refused(2)
    # As few coefficients as may be handed in never lead to this.
    if 2 * degree_of(number) > MOST_DEGREE:
        return refused(4)
    return answered(number_told(square_root_of(number)))


def compare(x_root, y_root, x, y):
    """0 x is less than y; 1 they are the same; 2 x is greater."""
    if not is_root(x_root, x) or not is_root(y_root, y):
        return refused(1)
    x_number = number_of(x_root, x)
    if x_number is None:
        return no_number(0)
    y_number = number_of(y_root, y)
    if y_number is None:
        return no_number(1)
    return answered([1 + order_of(x_number, y_number)])


def sign(x_root, p, x):
    """0 if p's value at x is below 0; 1 if it is 0; 2 if it is above."""
    if not is_polynomial(p) or not is_root(x_root, x):
        return refused(1)
    number = number_of(x_root, x)
    if number is None:
        return no_number(0)
    if p == []:
        return answered([1])
    return answered([1 + sign_at_number(coefficients_of(p), number)])


def digits(x_root, bits, x):
    """The greatest whole number that is not above x times 2 to the bits."""
    if bits > MOST_BITS or not is_root(x_root, x):
        return refused(1)
    number = number_of(x_root, x)
    if number is None:
        return no_number(0)
    return answered([floor_of(number, whole_power(2, bits))])


def fraction(x_root, x):
    """x, if it is a fraction."""
    if not is_root(x_root, x):
        return refused(1)
    number = number_of(x_root, x)
    if number is None:
        return no_number(0)
    found = fraction_of(number)
    return refused(5) if found is None else answered(list(found))
