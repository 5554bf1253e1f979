"""The sequence in which fractions stand sorted."""

from math import lcm

from innerfractions.bare import scaled_by
from innerfractions.fractions import terms_of


def sorted_fractions(fractions):
    """A new list of the Fractions, by their degrees, then by the numbers of their tops, then of their bottoms."""
    below = 1
    for fraction in fractions:
        _, bottom = terms_of(fraction)
        below = lcm(below, bottom[-1])
    return sorted(fractions, key=lambda one: standing_of(one, below))


def standing_of(fraction, below):
    """What it is sorted by: its told numbers times below, which makes them INTEGERS."""
    top, bottom = terms_of(fraction)
    times = below // bottom[-1]
    return fraction.degree, scaled_by(top, times), scaled_by(bottom, times)
