"""Fibres, parts and common parts of fractions, as shapes."""

from innerfractions.fractions import terms_of
from innerfractions.places import worth_at
from innerfractions.shapes import common_shape, padded, shaped


def fibre_shape(fraction, spot):
    """The shape of the full fraction's fibre over the spot."""
    top, bottom = terms_of(fraction)
    up, down = spot
    many = fraction.degree
    return shaped([down * one - up * other for one, other in zip(padded(top, many), padded(bottom, many))])


def part_shape(fraction, spot):
    """The shape of the full fraction's part at the spot."""
    return fibre_shape(fraction, worth_at(fraction, spot))


def common_part_shape(fractions, spot):
    """The shape of the common part of full fractions at the spot."""
    shape = part_shape(fractions[0], spot)
    for fraction in fractions[1:]:
        shape = common_shape(shape, part_shape(fraction, spot))
    return shape
