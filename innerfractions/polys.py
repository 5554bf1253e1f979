"""Polynomials: lists of 0 to 25 NUMBERS, from the power 0 on."""

from innerfractions.bare import derived_bare, divided_bare, lessened, multiplied, put_over, raised
from innerfractions.bare import scaled_by, summed, trimmed
from innerfractions.errors import InvalidPoly, NoughtPoly, TooMany
from innerfractions.ratios import Ratio, cleared, is_number, pair_of, ratios_over

MOST_NUMBERS = 25
MOST_DEGREE = 24


def is_poly(value):
    """Whether any value is a polynomial."""
    if not isinstance(value, (list, tuple)) or len(value) > MOST_NUMBERS:
        return False
    return all([is_number(number) for number in value])


def need_poly(value):
    """InvalidPoly unless the value is a polynomial."""
    if not is_poly(value):
        raise InvalidPoly(value)


def need_polys(poly, other):
    """InvalidPoly with the first of both that is no polynomial."""
    need_poly(poly)
    need_poly(other)


def cleared_poly(poly):
    """The polynomial as INTEGERS without a nought at their end, and the one bottom below them."""
    integers, below = cleared(poly)
    return trimmed(integers), below


def cleared_both(poly, other):
    """Both polynomials as INTEGERS without noughts at their end, and the one bottom below them."""
    integers, below = cleared([*poly, *other])
    return trimmed(integers[:len(poly)]), trimmed(integers[len(poly):]), below


def told(poly):
    """The told form."""
    need_poly(poly)
    integers, below = cleared_poly(poly)
    return ratios_over(integers, below)


def degree(poly):
    """The degree, -1 of nought."""
    need_poly(poly)
    return len(cleared_poly(poly)[0]) - 1


def plus(poly, other):
    """The sum of both."""
    need_polys(poly, other)
    first, second, below = cleared_both(poly, other)
    return ratios_over(summed(first, second), below)


def minus(poly, other):
    """The first one less the second one."""
    need_polys(poly, other)
    first, second, below = cleared_both(poly, other)
    return ratios_over(lessened(first, second), below)


def scaled(poly, number):
    """The polynomial times a NUMBER."""
    need_poly(poly)
    top, bottom = pair_of(number)
    integers, below = cleared_poly(poly)
    return ratios_over(scaled_by(integers, top), below * bottom)


def times(poly, other):
    """The product of both."""
    need_polys(poly, other)
    first, low = cleared_poly(poly)
    second, under = cleared_poly(other)
    product = multiplied(first, second)
    if len(product) > MOST_NUMBERS:
        raise TooMany("degree", MOST_DEGREE)
    return ratios_over(product, low * under)


def derived(poly):
    """The polynomial derived."""
    need_poly(poly)
    integers, below = cleared_poly(poly)
    return ratios_over(derived_bare(integers), below)


def put_in(poly, other):
    """The first one with the other one in the place of t."""
    need_polys(poly, other)
    first, low = cleared_poly(poly)
    second, under = cleared_poly(other)
    many = max(0, len(first) - 1)
    if many * (len(second) - 1) > MOST_DEGREE:
        raise TooMany("degree", MOST_DEGREE)
    return ratios_over(put_over(first, second, [under], many), low * raised(under, many))


def worth(poly, number):
    """What the polynomial comes to with the NUMBER in the place of t."""
    need_poly(poly)
    top, bottom = pair_of(number)
    integers, below = cleared_poly(poly)
    total, power = 0, 1
    for part in integers[::-1]:
        total = total * top + part * power
        power = power * bottom
    # The last power has come behind the last number, so one bottom is too many in it.
    return Ratio(total * bottom, below * power)


def divided(poly, other):
    """The tuple (quotient, rest) of the first one divided by the other one."""
    need_polys(poly, other)
    first, low = cleared_poly(poly)
    second, under = cleared_poly(other)
    if not second:
        raise NoughtPoly()
    power, quotient, rest = divided_bare(first, second)
    over = power * low
    return ratios_over([number * under for number in quotient], over), ratios_over(rest, over)
