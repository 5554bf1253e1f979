"""Parts of fractions at places, and the places at which several fractions cannot be told apart."""

from innerfractions.fibres import common_part_shape, part_shape
from innerfractions.fractions import need_fraction
from innerfractions.places import place_at, spot_of, worth_at
from innerfractions.refusals import need_fractions, need_full
from innerfractions.shapes import often_root, places_in, told_shape


def part(fraction, place):
    """The part of the fraction at the place, told."""
    need_fraction(fraction)
    spot = spot_of(place)
    need_full(fraction)
    return told_shape(part_shape(fraction, spot))


def taken(fraction, place):
    """How often the fraction is taken at the place."""
    need_fraction(fraction)
    spot = spot_of(place)
    need_full(fraction)
    return often_root(part_shape(fraction, spot), spot)


def common_part(fractions, place):
    """The common part of the fractions at the place, told."""
    need_fractions(fractions)
    return told_shape(common_part_shape(fractions, spot_of(place)))


def twins(fractions, place):
    """The sorted list of the tuples (place, how often) of all twins of the place."""
    need_fractions(fractions)
    return places_in(common_part_shape(fractions, spot_of(place)))


def are_twins(fractions, place, second):
    """Whether each of the fractions has the same worth at both places."""
    need_fractions(fractions)
    here, there = spot_of(place), spot_of(second)
    return all([has_one_worth(fraction, here, there) for fraction in fractions])


def has_one_worth(fraction, spot, other):
    """Whether the fraction has the same worth at both spots."""
    return place_at(worth_at(fraction, spot)) == place_at(worth_at(fraction, other))
