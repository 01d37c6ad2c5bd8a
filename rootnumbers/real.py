"""Real roots of square-free primitive polynomials, told apart by their chains of remainders.

A number here is a pair: the chain of its polynomial, and which of the real roots it is. Places are fractions that need
not be in lowest terms.
"""

from rootnumbers.ratio import lowest
from rootnumbers.whole import remainder_chain, sign_of, value_sign, whole_derivative

# How many parts 1 has at first where a number is looked for between two of them; later it is the square, and so on.
FIRST_SCALE = 16


def sturm_chain(p):
    """The chain by which the real roots of the square-free p are counted."""
    return remainder_chain(p, whole_derivative(p))


def changes(signs):
    """How often the sign changes along the row, zeros left out."""
    seen = [sign for sign in signs if sign != 0]
    return len([k for k in range(1, len(seen)) if seen[k - 1] != seen[k]])


def far_above(p):
    """The sign of p's values above all its roots."""
    return sign_of(p[-1])


def far_below(p):
    """The sign of p's values below all its roots."""
    return far_above(p) if len(p) % 2 == 1 else -far_above(p)


def how_many_roots(chain):
    """How many real roots the chain's first polynomial has."""
    return changes([far_below(p) for p in chain]) - changes([far_above(p) for p in chain])


def roots_upto(chain, place):
    """How many of its real roots are not above place."""
    return changes([far_below(p) for p in chain]) - changes([value_sign(p, place) for p in chain])


def roots_below(chain, place):
    """How many of its real roots are below place."""
    just_there = 1 if value_sign(chain[0], place) == 0 else 0
    return roots_upto(chain, place) - just_there


def roots_within(chain, ends):
    """How many of its real roots lie from the one end to the other, both with them."""
    return roots_upto(chain, ends[1]) - roots_below(chain, ends[0])


def whole_bound(p):
    """A whole number above the size of each root of p: Cauchy's bound, made whole."""
    return 2 + max([abs(a) for a in p]) // p[-1]


def is_at_least(number, place):
    """Whether the number is not below place."""
    return roots_below(number[0], place) <= number[1]


def is_at(number, place):
    """Whether the number is place."""
    return is_at_least(number, place) and roots_upto(number[0], place) > number[1]


def floor_of(number, scale):
    """The greatest whole number that is not above the number times scale, which is whole and above 0."""
    high = whole_bound(number[0][0]) * scale
    low = -high
    while high - low > 1:
        middle = (low + high) // 2
        if is_at_least(number, (middle, scale)):
            low = middle
        else:
            high = middle
    return low


def ends_at(number, scale):
    """The two places next to one another, counted in parts of 1, between which the number lies."""
    low = floor_of(number, scale)
    return ((low, scale), (low + 1, scale))


def fraction_of(number):
    """The number as a fraction in lowest terms, or None if it isn't one."""
    # The denominator of a fraction that is a root divides the lead.
    lead = number[0][0][-1]
    place = (floor_of(number, lead), lead)
    return lowest(place[0], place[1]) if is_at(number, place) else None


def is_power_of_two(whole):
    rest = whole
    while rest % 2 == 0:
        rest = rest // 2
    return rest == 1


def cell_of(number):
    """The two ends of the number's cell, fractions in lowest terms."""
    exact = fraction_of(number)
    if exact is not None and is_power_of_two(exact[1]):
        return (exact, exact)
    scale = 1
    low = floor_of(number, scale)
    while roots_within(number[0], ((low, scale), (low + 1, scale))) > 1:
        scale = 2 * scale
        low = 2 * low
        if is_at_least(number, (low + 1, scale)):
            low = low + 1
    return (lowest(low, scale), lowest(low + 1, scale))
