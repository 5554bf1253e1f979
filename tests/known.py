"""Whole polynomials that are known, and products of them."""

from helpers import ratio, standing
from innerfractions.polys import degree, scaled, times, told
from innerfractions.ratios import Ratio

# Of degree 1, or whole by Eisenstein, as cyclotomic ones, by their degree and lack of roots, or known as such.
WHOLE = [
    [0, 1], [1, 1], [-3, 1], [1, 2], [-5, 3], [Ratio(2, 7), Ratio(1, 3)], [999983, 1000],
    [1, 0, 1], [-2, 0, 1], [1, 1, 1], [3, 0, -2], [5, 2, 7], [Ratio(1, 2), 0, 3],
    [-2, 0, 0, 1], [1, -3, 0, 1], [2, 2, 2, 1], [7, 0, 0, 3],
    [1, 0, 0, 0, 1], [1, 1, 1, 1, 1], [1, 0, -10, 0, 1], [-2, 0, 0, 0, 5], [2, 0, -4, 0, 1],
    [2, -4, 0, 0, 0, 1], [-3, 3, 0, 0, 0, 1], [1, -1, 0, 0, 0, 1],
    [1, 0, 0, 1, 0, 0, 1], [1, 1, 1, 1, 1, 1, 1], [2, 0, 0, 0, 0, 0, 9],
    [-7, 0, 0, 0, 0, 0, 0, 1], [3, 0, 0, 0, 0, 0, 0, 4],
    [1, 0, 0, 0, 0, 0, 0, 0, 1], [1, 0, 0, 0, -1, 0, 0, 0, 1], [1, 0, -1, 0, 1, 0, -1, 0, 1], [576, 0, -960, 0, 352, 0, -40, 0, 1],
]


def monic(poly):
    """The polynomial divided by its head."""
    last = told(poly)[-1]
    return scaled(poly, Ratio(last.bottom, last.top))


def drawn_product(draw, most):
    """A tuple of a product of degree up to most, a number times whole ones, and of its factors, sorted."""
    product, many = [draw.choice([1, -1, 7, Ratio(-3, 4), 999999])], []
    for _ in range(draw.randint(0, 4)):
        one = draw.choice(WHOLE)
        for _ in range(draw.choice([1, 1, 1, 2, 3])):
            if degree(product) + degree(one) <= most:
                product = times(product, one)
                many.append(monic(one))
    factors = []
    for one in sorted(many, key=standing):
        if not factors or factors[-1][0] != one:
            factors.append((one, 0))
        factors[-1] = (one, factors[-1][1] + 1)
    return product, factors


def root_of(factor):
    """The root of a polynomial of degree 1 with the head 1."""
    return ratio(-factor[0])
