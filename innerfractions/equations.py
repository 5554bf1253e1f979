"""The equations of curves, the points on them, and the letter back from a point."""

from innerfractions.backs import back_grids, falling
from innerfractions.bare import multiplied
from innerfractions.curves import need_curve
from innerfractions.determinants import grid_through, resultant
from innerfractions.errors import InvalidPoint
from innerfractions.fibres import fibre_shape
from innerfractions.forms import told_form
from innerfractions.grids import column, grid_sums, in_ratios, is_grid
from innerfractions.moves import undone
from innerfractions.places import place_at, spot_of, worth_at
from innerfractions.ratios import is_number
from innerfractions.refusals import need_degree
from innerfractions.shapes import common_shape, told_shape

MOST_DEGREE = 4


def is_point(value):
    """Whether any value is a tuple of two NUMBERS."""
    return isinstance(value, tuple) and len(value) == 2 and all([is_number(number) for number in value])


def need_point(value):
    """InvalidPoint unless the value is a tuple of two NUMBERS."""
    if not is_point(value):
        raise InvalidPoint(value)


def plain_pair(curve):
    """The first and the second one of the plain telling, behind all errors of the curve."""
    need_curve(curve)
    plain = curve.plain()
    need_degree(plain.first(), MOST_DEGREE)
    need_degree(plain.second(), MOST_DEGREE)
    return plain.first(), plain.second()


def equation(curve):
    """The grid whose sum comes to 0 at all points of the curve, told.

    For two numbers x and y the resultant is 0 exactly if both come from one place; since the
    telling is plain, it is the equation once.
    """
    first, second = plain_pair(curve)
    high, wide = second.degree, first.degree + 1
    lines = [[resultant(falling(first, x), falling(second, y)) for y in range(wide)] for x in range(high + 1)]
    numbers = told_form([number for row in grid_through(lines) for number in row])
    return [numbers[at:at + wide] for at in range(0, len(numbers), wide)]


def is_on(curve, point):
    """Whether the point is on the curve."""
    return places_at(curve, point) is not None


def places_at(curve, point):
    """The form of the places of the plain telling at the point, told; None off the curve."""
    need_curve(curve)
    need_point(point)
    plain = curve.plain()
    shapes = []
    for fraction, number in zip((plain.first(), plain.second()), point):
        if fraction.is_full:
            shapes.append(fibre_shape(fraction, spot_of(number)))
        elif place_at(worth_at(fraction, (0, 1))) != place_at(spot_of(number)):
            return None
    shared = shapes[0] if len(shapes) == 1 else common_shape(shapes[0], shapes[1])
    return told_shape(shared) if len(shared) > 1 else None


def letter_back(curve):
    """A tuple of two grids: the one divided by the other one, the plain first and second put in, is the letter."""
    first, second = plain_pair(curve)
    if first.is_move:
        back = undone(first)
        return column(back.upper()), column(back.lower())
    if second.is_move:
        back = undone(second)
        return [back.upper()], [back.lower()]
    top, bottom = back_grids(first, second)
    return in_ratios(top), in_ratios(bottom)


def is_letter_back(curve, value):
    """Whether any value is a tuple of two grids that tell the letter back."""
    first, second = plain_pair(curve)
    if not isinstance(value, tuple) or len(value) != 2 or not is_grid(value[0]) or not is_grid(value[1]):
        return False
    above, below = grid_sums(value[0], value[1], first, second)
    return below != [] and above == multiplied(below, [0, 1])
