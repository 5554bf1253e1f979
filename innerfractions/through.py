"""Fractions written as fractions of an inner one."""

from innerfractions.bare import multiplied
from innerfractions.fractions import Fraction, terms_of
from innerfractions.ratios import Ratio
from innerfractions.shapes import padded
from innerfractions.solved import stepped


def products_of(top, bottom, many):
    """The list of the products of top i times and bottom many - i times, i from 0 to many."""
    downs = [[1]]
    for _ in range(many):
        downs = downs + [multiplied(downs[-1], bottom)]
    products, up = [], [1]
    for at in range(many + 1):
        products = products + [multiplied(up, downs[many - at])]
        up = multiplied(up, top)
    return products


def powers_over(fraction, many):
    """The powers of the fraction up to this one, all times its bottom as often as many tells."""
    top, bottom = terms_of(fraction)
    return products_of(top, bottom, many)


def outer_of(fraction, inner):
    """The Fraction that, of the inner one, is the fraction; None if there is none. Both are full.

    The top and the bottom are sums of the same products, each times a number: one equation for
    each power of t, solved for both at once.
    """
    most, degree = fraction.degree, inner.degree
    if most % degree != 0:
        return None
    many = most // degree
    top, bottom = terms_of(fraction)
    lists = [padded(poly, most) for poly in powers_over(inner, many) + [top, bottom]]
    done = stepped([list(row) for row in zip(*lists)], many + 3)
    # The products have no common multiple, so all heads ahead of the goals are there; one more
    # is a goal that is not met.
    if len(done) > many + 1:
        return None
    tops = [Ratio(row[many + 1], row[at]) for at, row in enumerate(done)]
    return Fraction(tops, [Ratio(row[many + 2], row[at]) for at, row in enumerate(done)])
