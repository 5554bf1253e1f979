"""Double places of curves, and whether two curves are the same."""

from innerfractions.bare import worth_over
from innerfractions.curves import need_curve
from innerfractions.determinants import poly_through, resultant
from innerfractions.equations import MOST_DEGREE, is_on
from innerfractions.errors import NumbersAlone
from innerfractions.fractions import put, terms_of
from innerfractions.inside import moves_inside
from innerfractions.moves import is_move
from innerfractions.places import BEYOND, is_place, place_at
from innerfractions.refusals import need_degree
from innerfractions.shapes import padded, shaped, told_shape


def need_curves(curve, other):
    """InvalidCurve with the first of both that is no Curve."""
    need_curve(curve)
    need_curve(other)


def double_form(curve):
    """The double form, told."""
    need_curve(curve)
    plain = curve.plain()
    first, second = plain.first(), plain.second()
    if not first.is_full or not second.is_full:
        raise NumbersAlone()
    need_degree(first, MOST_DEGREE)
    need_degree(second, MOST_DEGREE)
    many = 2 * (first.degree - 1) * (second.degree - 1)
    worths = [resultant(other_twins(first, number), other_twins(second, number)) for number in range(many + 1)]
    return told_shape(shaped(poly_through(worths)))


def other_twins(fraction, number):
    """The part at a COUNT divided by the letter less it, its numbers from the power of the degree less 1 down.

    The part is not brought to lowest terms, so that its numbers are polynomials of the COUNT.
    """
    top, bottom = terms_of(fraction)
    many = fraction.degree
    over, under = worth_over(top, number, 1, many), worth_over(bottom, number, 1, many)
    form = [one * under - two * over for one, two in zip(padded(top, many), padded(bottom, many))]
    rest, lead = [], 0
    for part in form[:0:-1]:
        lead = lead * number + part
        rest.append(lead)
    return rest


def same_curve(curve, other):
    """The move that leads the plain telling of the curve to that of the other one; None if there is none."""
    need_curves(curve, other)
    return leading_move(curve.plain(), other.plain())


def leading_move(plain, wanted):
    """The move that, put into both of a plain telling, makes the wanted one of it; None if there is none."""
    pairs = [(plain.first(), wanted.first()), (plain.second(), wanted.second())]
    fraction, goal = [pair for pair in pairs if pair[0].is_full][0]
    fit = [move for move in moves_inside(fraction, goal) if leads_to(plain, wanted, move)]
    return fit[0] if fit else None


def leads_to(plain, wanted, move):
    """Whether both of the plain telling, with the move put in, are both of the wanted one."""
    return put(plain.first(), move) == wanted.first() and put(plain.second(), move) == wanted.second()


def is_same_move(curve, other, value):
    """Whether any value is the move that leads the plain telling of the curve to that of the other one."""
    need_curves(curve, other)
    return is_move(value) and leads_to(curve.plain(), other.plain(), value)


def other_place(curve, other):
    """A place of the curve's plain telling whose point has two numbers and is off the other one.

    None if both are the same; else all places but finitely many are such, so some COUNT is.
    """
    need_curves(curve, other)
    plain, number = curve.plain(), 0
    if leading_move(plain, other.plain()) is not None:
        return None
    while not is_beside(plain, other, number):
        number = number + 1
    return place_at((number, 1))


def is_other_place(curve, other, value):
    """Whether any value is a place of the plain telling whose point has two numbers and is off the other curve."""
    need_curves(curve, other)
    return is_place(value) and is_beside(curve.plain(), other, value)


def is_beside(plain, other, place):
    """Whether the point at the place has two numbers and is off the other curve."""
    point = plain.point(place)
    return BEYOND not in point and not is_on(other, point)
