"""Forms of INTEGERS without a common divisor, the last number that is not 0 above 0: SHAPES.

Forms are like exactly if they have the same shape. The other files reckon with these;
nothing is checked here.
"""

from innerfractions.bare import bare, divided_bare, trimmed
from innerfractions.commons import common_bare
from innerfractions.factors import roots
from innerfractions.places import BEYOND
from innerfractions.ratios import ratios_over


def padded(poly, many):
    """The polynomial with noughts at its end up to the power many."""
    return poly + [0] * (many + 1 - len(poly))


def shaped(numbers):
    """The shape of a form of INTEGERS."""
    return padded(bare(numbers), len(numbers) - 1)


def told_shape(shape):
    """The told form of this shape."""
    return ratios_over(shape, trimmed(shape)[-1])


def noughts_behind(shape):
    """How often beyond is a root."""
    return len(shape) - len(trimmed(shape))


def common_shape(shape, other):
    """The shape of the common form of both."""
    poly = common_bare(trimmed(shape), trimmed(other))
    return poly + [0] * min(noughts_behind(shape), noughts_behind(other))


def rest_shape(shape, other):
    """The shape whose product with the first one is like the other one; None if there is none."""
    noughts = noughts_behind(other) - noughts_behind(shape)
    _, quotient, rest = divided_bare(trimmed(other), trimmed(shape))
    if noughts < 0 or rest:
        return None
    return bare(quotient) + [0] * noughts


def is_shape_divider(shape, other):
    """Whether the first one divides the other one."""
    return rest_shape(shape, other) is not None


def often_root(shape, spot):
    """How often the spot is a root."""
    up, down = spot
    line = shaped([-up, down])
    many, left = 0, rest_shape(line, shape)
    while left is not None:
        many, left = many + 1, rest_shape(line, left)
    return many


def places_in(shape):
    """The sorted list of the tuples (place, how often) of all roots that are places."""
    poly = trimmed(shape)
    noughts = len(shape) - len(poly)
    return roots(poly) + ([(BEYOND, noughts)] if noughts > 0 else [])
