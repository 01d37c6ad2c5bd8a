"""Numbers reckoned of one number, told: pairs of a square-free primitive polynomial and the number of its root."""

from rootnumbers.ratio import ZERO
from rootnumbers.real import how_many_roots, roots_below, roots_upto
from rootnumbers.whole import primitive, square_free


def minus_of(number):
    p = primitive([a if k % 2 == 0 else -a for k, a in enumerate(number[0][0])])
    return (p, how_many_roots(number[0]) - 1 - number[1])


def is_below_zero(number):
    return roots_below(number[0], ZERO) > number[1]


def square_root_of(number):
    """Of a number that is not below 0."""
    chain = number[0]
    spread = []
    for a in chain[0]:
        spread.extend([a, 0])
    # Each root above 0 has a square root below 0 too, and these come first.
    first = how_many_roots(chain) - roots_upto(chain, ZERO)
    return (square_free(spread[:-1]), first + number[1] - roots_below(chain, ZERO))
