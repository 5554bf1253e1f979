"""The one fraction of which all told ones are made, and which is made of them."""

from innerfractions.bare import trimmed
from innerfractions.classes import told_class
from innerfractions.fibres import common_part_shape
from innerfractions.fractions import Fraction, need_fraction
from innerfractions.places import is_place, place_at, spot_of
from innerfractions.refusals import need_fractions
from innerfractions.shapes import common_shape
from innerfractions.through import outer_of


def the_one(fractions):
    """The one, told."""
    need_fractions(fractions)
    return one_of(fractions)


def outers(fractions):
    """The list of the outer ones of the one, one for each told one."""
    need_fractions(fractions)
    one = one_of(fractions)
    return [outer_of(fraction, one) for fraction in fractions]


def tells_letter(fractions):
    """Whether the one has the degree 1."""
    need_fractions(fractions)
    return one_of(fractions).is_move


def is_the_one(fractions, fraction):
    """Whether a Fraction is in the class of the one."""
    need_fractions(fractions)
    need_fraction(fraction)
    return fraction.is_full and told_class(fraction) == one_of(fractions)


def lone_place(fractions):
    """The least COUNT at which the common part has just the degree of the one."""
    need_fractions(fractions)
    one, number = one_of(fractions), 0
    while not is_lone(fractions, one, (number, 1)):
        number = number + 1
    return place_at((number, 1))


def is_lone_place(fractions, value):
    """Whether any value is a place at which the common part has just the degree of the one."""
    need_fractions(fractions)
    return is_place(value) and is_lone(fractions, one_of(fractions), spot_of(value))


def is_lone(fractions, one, spot):
    """Whether the common part at the spot has just the degree of the one."""
    return len(common_part_shape(fractions, spot)) - 1 == one.degree


def one_of(fractions):
    """The one of full fractions.

    Common parts of the least degree, at two places, are the one's parts there, and their quotient
    is of its class, if the places are lone: just then the quotient is inner to all.
    """
    shapes, number = [], 0
    while True:
        shape = common_part_shape(fractions, (number, 1))
        # Lone places have the least degree; so what was found of a greater one is of no use.
        shapes = [other for other in shapes if len(other) <= len(shape)]
        for other in shapes:
            one = quotient_of(shape, other)
            if one is not None and are_made_of(fractions, one):
                return told_class(one)
        if all([len(shape) <= len(other) for other in shapes]):
            shapes.append(shape)
        number = number + 1


def quotient_of(shape, other):
    """The quotient of two forms of one degree, None if they have a common root."""
    if len(shape) != len(other) or len(common_shape(shape, other)) > 1:
        return None
    return Fraction(trimmed(shape), trimmed(other))


def are_made_of(fractions, one):
    """Whether the one is inner to each of the fractions."""
    return all([outer_of(fraction, one) is not None for fraction in fractions])
