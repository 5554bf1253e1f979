"""Forms: lists of 1 to 25 NUMBERS, not all 0, with beyond among their roots."""

from innerfractions.bare import multiplied, trimmed
from innerfractions.errors import InvalidForm, NotDivided, TooMany
from innerfractions.polys import MOST_DEGREE, is_poly
from innerfractions.ratios import cleared
from innerfractions.shapes import common_shape, is_shape_divider, noughts_behind, places_in
from innerfractions.shapes import rest_shape, shaped, told_shape


def is_form(value):
    """Whether any value is a form."""
    return is_poly(value) and any(cleared(value)[0])


def shape_of(form):
    """The shape of a form: InvalidForm unless it is one."""
    if not is_form(form):
        raise InvalidForm(form)
    return shaped(cleared(form)[0])


def told_form(form):
    """The told form that it is like."""
    return told_shape(shape_of(form))


def are_like(form, other):
    """Whether both are of one degree, and the one is the other one times a number."""
    return shape_of(form) == shape_of(other)


def product(form, other):
    """The product of both, told."""
    first, second = shape_of(form), shape_of(other)
    if len(first) + len(second) - 2 > MOST_DEGREE:
        raise TooMany("degree", MOST_DEGREE)
    noughts = noughts_behind(first) + noughts_behind(second)
    return told_shape(multiplied(trimmed(first), trimmed(second)) + [0] * noughts)


def divides(form, other):
    """Whether the first one divides the other one."""
    first, second = shape_of(form), shape_of(other)
    return is_shape_divider(first, second)


def rest_form(form, other):
    """The told form whose product with the first one is like the other one."""
    first, second = shape_of(form), shape_of(other)
    rest = rest_shape(first, second)
    if rest is None:
        raise NotDivided()
    return told_shape(rest)


def common_form(form, other):
    """The form of the greatest degree that divides both, told."""
    first, second = shape_of(form), shape_of(other)
    return told_shape(common_shape(first, second))


def places_of(form):
    """The sorted list of the tuples (place, how often) of all roots that are places."""
    return places_in(shape_of(form))
