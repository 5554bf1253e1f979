"""Fibres of fractions, and the places at which fractions turn."""

from innerfractions.bare import derived_bare, lessened, multiplied
from innerfractions.fibres import fibre_shape
from innerfractions.fractions import need_fraction, terms_of
from innerfractions.places import spot_of
from innerfractions.refusals import need_degree, need_full
from innerfractions.shapes import padded, shaped, told_shape

MOST_DEGREE = 12


def fibre(fraction, worth):
    """The fibre of the fraction over the worth, told."""
    need_fraction(fraction)
    spot = spot_of(worth)
    need_full(fraction)
    return told_shape(fibre_shape(fraction, spot))


def turning(fraction):
    """The turning form of the fraction, told."""
    need_fraction(fraction)
    need_full(fraction)
    need_degree(fraction, MOST_DEGREE)
    top, bottom = terms_of(fraction)
    poly = lessened(multiplied(derived_bare(top), bottom), multiplied(top, derived_bare(bottom)))
    return told_shape(shaped(padded(poly, 2 * fraction.degree - 2)))
