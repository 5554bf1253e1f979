"""What divides a polynomial."""

from innerfractions.bare import divided_bare, multiplied
from innerfractions.basics import is_count
from innerfractions.errors import InvalidMany, NoughtPoly
from innerfractions.factors import MOST_DEGREE, factored
from innerfractions.lots import one_head, standing
from innerfractions.parts import with_head_one
from innerfractions.polys import cleared_poly, is_poly, need_poly


def dividers(poly, many):
    """The sorted list of all dividers with the head 1 of the degree many."""
    need_poly(poly)
    if not is_count(many) or many > MOST_DEGREE:
        raise InvalidMany(many)
    found = [product for product in products_to(factored(poly), many) if len(product) == many + 1]
    head = one_head(found)
    return [with_head_one(product) for product in sorted(found, key=lambda row: standing(row, head))]


def products_to(factors, many):
    """All products of factors, each from none to as often as it stands, of the degree many at most."""
    products = [[1]]
    for factor, often in factors:
        last = products
        for _ in range(often):
            last = [multiplied(product, factor) for product in last if len(product) + len(factor) - 2 <= many]
            products = products + last
    return products


def is_divider(poly, value):
    """Whether any value is a polynomial, not nought, that divides it."""
    need_poly(poly)
    integers, _ = cleared_poly(poly)
    if not integers:
        raise NoughtPoly()
    if not is_poly(value):
        return False
    other, _ = cleared_poly(value)
    return other != [] and not divided_bare(integers, other)[2]
