"""The whole factors of a polynomial, and its roots."""

from innerfractions.errors import NoughtPoly, TooMany
from innerfractions.lots import bare_factors
from innerfractions.parts import with_head_one
from innerfractions.polys import cleared_poly, need_poly
from innerfractions.ratios import Ratio

MOST_DEGREE = 8


def need_small(integers):
    """TooMany if the degree is too great."""
    if len(integers) - 1 > MOST_DEGREE:
        raise TooMany("degree", MOST_DEGREE)


def factored(poly):
    """The bare factors, behind all errors of the polynomial."""
    need_poly(poly)
    integers, _ = cleared_poly(poly)
    if not integers:
        raise NoughtPoly()
    need_small(integers)
    return bare_factors(integers)


def factors(poly):
    """The sorted list of the tuples (factor, how often)."""
    return [(with_head_one(factor), often) for factor, often in factored(poly)]


def is_whole(poly):
    """Whether it is of degree 1 or more and not parted."""
    need_poly(poly)
    integers, _ = cleared_poly(poly)
    need_small(integers)
    if len(integers) < 2:
        return False
    return len(bare_factors(integers)[0][0]) == len(integers)


def roots(poly):
    """The list of the tuples (root, how often), sorted by roots."""
    # Factors of the degree 1 stand by their numbers c0, and these are the roots with the other sign.
    lines = [(factor, often) for factor, often in factored(poly) if len(factor) == 2]
    return [(Ratio(-factor[0], factor[1]), often) for factor, often in lines[::-1]]
