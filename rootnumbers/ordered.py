"""How numbers lie to one another, and polynomials to 0 at them."""

from rootnumbers.poly import of_whole, poly_product, value_at, whole_square_free_part
from rootnumbers.real import FIRST_SCALE, ends_at, roots_below, roots_within, sturm_chain
from rootnumbers.whole import sign_of, value_sign


def lone_ends(chain, number):
    """Ends of the number, a root of the chain's polynomial, between which no other root of that lies."""
    scale = FIRST_SCALE
    ends = ends_at(number, scale)
    while roots_within(chain, ends) > 1:
        scale = scale * scale
        ends = ends_at(number, scale)
    return ends


def chain_with(p, number):
    """The chain of the polynomial that has the roots of p (not 0) and those of the number's polynomial."""
    return sturm_chain(whole_square_free_part(poly_product(p, of_whole(number[0][0]))))


def order_of(x, y):
    """-1, 0 or 1, as x is less than y, the same or greater."""
    # Numbers are the same just where they are the same root of one polynomial, and else lie as its roots do.
    chain = chain_with(of_whole(x[0][0]), y)
    x_place = roots_below(chain, lone_ends(chain, x)[0])
    y_place = roots_below(chain, lone_ends(chain, y)[0])
    return sign_of(x_place - y_place)


def sign_at_number(p, x):
    """-1, 0 or 1, as the value of p (not 0) at x is."""
    ends = lone_ends(chain_with(p, x), x)
    # No root of p but x itself can lie between the ends, and in the square-free part it is one where the sign changes.
    base = whole_square_free_part(p)
    if value_sign(base, ends[0]) * value_sign(base, ends[1]) <= 0:
        return 0
    return sign_of(value_at(p, ends[0])[0])
