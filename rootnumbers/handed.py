"""How values are handed in and given back: as whole numbers in a row."""

from rootnumbers.ratio import whole_divisor

# A numerator or a denominator of this size or more is refused.
SIZE_LIMIT = 1000000
MOST_COEFFICIENTS = 9
MOST_ROOT = 1000


def is_fraction(top, bottom):
    """Whether this is a fraction as it may be handed in."""
    if bottom < 1 or bottom >= SIZE_LIMIT or abs(top) >= SIZE_LIMIT:
        return False
    return whole_divisor(top, bottom) == 1


def is_polynomial(numbers):
    """Whether this is a polynomial as it may be handed in."""
    if numbers == []:
        return True
    if len(numbers) % 2 == 1 or len(numbers) > 2 * MOST_COEFFICIENTS or numbers[-2] == 0:
        return False
    return all([is_fraction(top, bottom) for top, bottom in coefficients_of(numbers)])


def is_root(root, numbers):
    """Whether this is a number's root and polynomial as they may be handed in, be there such a root or not."""
    return root <= MOST_ROOT and is_polynomial(numbers)


def coefficients_of(numbers):
    """The pairs of numerator and denominator; a copy, so what was handed in stays as it was."""
    return [(numbers[k], numbers[k + 1]) for k in range(0, len(numbers), 2)]


def polynomial_told(p):
    """How many coefficients, then each of them."""
    told = [len(p)]
    for top, bottom in p:
        told.append(top)
        told.append(bottom)
    return told


def number_told(number):
    """Of a pair of a polynomial with whole coefficients and a root's number: the polynomial, then that."""
    return polynomial_told([(a, 1) for a in number[0]]) + [number[1]]


def answered(numbers):
    return [0] + numbers


def refused(reason):
    return [9, reason]


def no_number(operand):
    """The refusal of an operand, 0 or 1, that is no number."""
    return [9, 3, operand]
