"""Inner and outer fractions, and the places that show that one is not inner to another one."""

from innerfractions.fibres import part_shape
from innerfractions.places import is_place, place_at, spot_of
from innerfractions.refusals import need_both, need_degree, need_full
from innerfractions.shapes import is_shape_divider
from innerfractions.through import outer_of

MOST_DEGREE = 12


def need_outer(fraction, inner):
    """The errors that all functions of this file have."""
    need_both(fraction, inner)
    need_full(fraction)
    need_full(inner)
    need_degree(fraction, MOST_DEGREE)
    need_degree(inner, MOST_DEGREE)


def outer(fraction, inner):
    """The Fraction f with fraction = f of inner; None unless inner is inner to it."""
    need_outer(fraction, inner)
    return outer_of(fraction, inner)


def is_inner(fraction, inner):
    """Whether inner is inner to the fraction."""
    need_outer(fraction, inner)
    return outer_of(fraction, inner) is not None


def parting_place(fraction, inner):
    """A place that shows that inner is not inner to the fraction; None if it is."""
    need_outer(fraction, inner)
    if outer_of(fraction, inner) is not None:
        return None
    return first_parting_place(fraction, inner)


def is_parting_place(fraction, inner, value):
    """Whether any value is a place at which the part of inner does not divide that of the fraction."""
    need_outer(fraction, inner)
    return is_place(value) and are_parted(fraction, inner, spot_of(value))


def are_parted(fraction, inner, spot):
    """Whether the part of inner at the spot does not divide that of the fraction."""
    return not is_shape_divider(part_shape(inner, spot), part_shape(fraction, spot))


def first_parting_place(fraction, inner):
    """The least COUNT that is a parting place; there is one unless inner is inner to the fraction.

    All places but finitely many show it, so some COUNT does.
    """
    number = 0
    while not are_parted(fraction, inner, (number, 1)):
        number = number + 1
    return place_at((number, 1))
