"""Numbers reckoned of two numbers: sums, differences, products, quotients of roots, as roots."""

from rootnumbers.poly import of_whole, poly_resultant
from rootnumbers.ratio import added, less, over, times
from rootnumbers.real import FIRST_SCALE, ends_at, roots_below, roots_within, sturm_chain
from rootnumbers.whole import square_free, trimmed

SUM = 0
DIFFERENCE = 1
PRODUCT = 2
QUOTIENT = 3


def times_and(p, a, b, c):
    """p times a + b t, and c added."""
    result = [0] * (len(p) + 1)
    result[0] = c
    for k, coefficient in enumerate(p):
        result[k] = result[k] + a * coefficient
        result[k + 1] = result[k + 1] + b * coefficient
    return trimmed(result, 0)


def put_in(q, a, b):
    """q(a + b t), as a polynomial in t."""
    result = []
    for coefficient in reversed(q):
        result = times_and(result, a, b, coefficient)
    return result


def turned_about(q, z):
    """t^m q(z / t), as a polynomial in t, m q's degree."""
    result = []
    power = 1
    for coefficient in q:
        result.append(coefficient * power)
        power = power * z
    return trimmed(list(reversed(result)), 0)


def second_of(op, q, z):
    """The polynomial in t whose resultant with p(t) is, for each z, the value of the polynomial that is looked for."""
    if op == SUM:
        return put_in(q, z, -1)
    if op == DIFFERENCE:
        return put_in(q, -z, 1)
    return turned_about(q, z)


def first_differences(values):
    """The first of the values, the first of their differences, the first of the differences of these, and so on."""
    found = []
    row = values
    while row != []:
        found.append(row[0])
        row = [row[k + 1] - row[k] for k in range(len(row) - 1)]
    return found


def through(values):
    """A multiple of the polynomial that has these values at 1, 2, 3 and so on, by Newton's formula."""
    found = first_differences(values)
    result = []
    # Of n values the multiple is (n - 1)!, so that no difference has to be divided by k!.
    factor = 1
    for k in range(len(found) - 1, -1, -1):
        result = times_and(result, -(k + 1), 1, found[k] * factor)
        factor = factor * k
    return result


def joined(op, p, q):
    """The square-free primitive polynomial of what is reckoned of each root of p with each root of q."""
    other = turned_about(q, 1) if op == QUOTIENT else q
    degree = (len(p) - 1) * (len(other) - 1)
    # From 1 on: at 0 the second polynomial could be of lesser degree in t, and the resultant then is another one's.
    seconds = [second_of(op, other, z) for z in range(1, degree + 2)]
    return square_free(through([poly_resultant(of_whole(p), of_whole(second))[0] for second in seconds]))


def of_fractions(op, a, b):
    if op == SUM:
        return added(a, b)
    if op == DIFFERENCE:
        return less(a, b)
    if op == PRODUCT:
        return times(a, b)
    return over(a, b)


def is_less(a, b):
    return a[0] * b[1] < b[0] * a[1]


def reckoned_ends(op, x_ends, y_ends):
    """Ends for what is reckoned of numbers within these ends: it lies between what is reckoned of the ends."""
    corners = [of_fractions(op, x_end, y_ends[0]) for x_end in x_ends]
    corners.extend([of_fractions(op, x_end, y_ends[1]) for x_end in x_ends])
    low = corners[0]
    high = corners[0]
    for corner in corners:
        if is_less(corner, low):
            low = corner
        if is_less(high, corner):
            high = corner
    return (low, high)


def holds_zero(ends):
    return ends[0][0] <= 0 and ends[1][0] >= 0


def reckoned(op, x, y):
    """The number told: its polynomial, and the number of its root; y is not 0 where it is divided by."""
    p = joined(op, x[0][0], y[0][0])
    chain = sturm_chain(p)
    scale = FIRST_SCALE
    while op == QUOTIENT and holds_zero(ends_at(y, scale)):
        scale = scale * scale
    ends = reckoned_ends(op, ends_at(x, scale), ends_at(y, scale))
    while roots_within(chain, ends) > 1:
        scale = scale * scale
        ends = reckoned_ends(op, ends_at(x, scale), ends_at(y, scale))
    return (p, roots_below(chain, ends[0]))
