"""Common parts of two polynomials, and shares that make them."""

from innerfractions.bare import derived_bare, multiplied, scaled_by, summed
from innerfractions.commons import common_bare, led_shares
from innerfractions.errors import NoughtPoly
from innerfractions.polys import cleared_both, cleared_poly, is_poly, need_poly, need_polys
from innerfractions.ratios import ratios_over


def common(poly, other):
    """The common part, its head 1; nought of two noughts."""
    need_polys(poly, other)
    first, second, _ = cleared_both(poly, other)
    return with_head_one(common_bare(first, second))


def with_head_one(integers):
    """A polynomial of INTEGERS divided by its head, told."""
    return ratios_over(integers, integers[-1]) if integers else []


def shares(poly, other):
    """A tuple of two told shares, those of the least degrees."""
    need_polys(poly, other)
    first, second, below = cleared_both(poly, other)
    shared, one, two = led_shares(first, second)
    if not shared:
        return [], []
    head = shared[-1]
    return ratios_over(scaled_by(one, below), head), ratios_over(scaled_by(two, below), head)


def is_shares(poly, other, value):
    """Whether any value is a tuple of two polynomials that are shares."""
    need_polys(poly, other)
    if not isinstance(value, tuple) or len(value) != 2 or not is_poly(value[0]) or not is_poly(value[1]):
        return False
    first, second, below = cleared_both(poly, other)
    one, two, under = cleared_both(value[0], value[1])
    shared = common_bare(first, second)
    if not shared:
        return True
    made = summed(multiplied(one, first), multiplied(two, second))
    # What is made stands over below * under, the common part over its head.
    return scaled_by(made, shared[-1]) == scaled_by(shared, below * under)


def has_square(poly):
    """Whether the square of some polynomial of degree 1 or more divides it."""
    need_poly(poly)
    integers, _ = cleared_poly(poly)
    if not integers:
        raise NoughtPoly()
    return len(common_bare(integers, derived_bare(integers))) > 1
