"""The moves that, put into one fraction, make another one of it."""

from innerfractions.bare import derived_bare, lessened, scaled_by
from innerfractions.factors import roots
from innerfractions.fibres import fibre_shape
from innerfractions.fractions import Fraction, put, terms_of
from innerfractions.parts import has_square
from innerfractions.places import place_at, spot_of, worth_at
from innerfractions.polys import worth
from innerfractions.ratios import Ratio


def moves_inside(fraction, other):
    """All moves m such that the other one is the fraction of m, in no sequence; both are full.

    At a number at which the other one is taken once m leads to one of the places at which the
    fraction has the same worth; what both grow by there leaves one move for each of these.
    """
    if fraction.degree != other.degree:
        return []
    number, spot = plain_number(fraction, other)
    pace = growth(other, spot, number)
    places = [place for place, _ in roots(fibre_shape(fraction, spot))]
    moves = [move_that_grows(number, place, pace, growth(fraction, spot, place)) for place in places]
    return [move for move in moves if put(fraction, move) == other]


def plain_number(fraction, other):
    """A tuple of the least COUNT and the other one's worth there, a number, that both take at unlike numbers alone."""
    number = 0
    while True:
        spot = spot_of(place_at(worth_at(other, (number, 1))))
        if spot[1] != 0 and is_plain_over(fraction, spot) and is_plain_over(other, spot):
            return number, spot
        number = number + 1


def is_plain_over(fraction, spot):
    """Whether the fraction has the worth of the spot at unlike places alone, none of them beyond."""
    shape = fibre_shape(fraction, spot)
    return shape[-1] != 0 and not has_square(shape)


def growth(fraction, spot, number):
    """How the fraction grows from the worth of the spot, which it has at the number.

    That is a tuple of two Ratios, by which it grows with the first and with the second power of
    what the letter grows by; both are multiplied by the bottom of the spot.
    """
    top, bottom = terms_of(fraction)
    up, down = spot
    over = lessened(scaled_by(top, down), scaled_by(bottom, up))
    first = derived_bare(over)
    under = worth(bottom, number)
    pace = worth(first, number).over(under)
    second = worth(derived_bare(first), number) * Ratio(1, 2)
    return pace, (second - pace * worth(derived_bare(bottom), number)).over(under)


def move_that_grows(number, place, wanted, given):
    """The move that leads the number to the place, and grows so that what grows there as given grows as wanted."""
    pace = wanted[0].over(given[0])
    bend = (wanted[1] - given[1] * pace * pace).over(given[0])
    # It is place + pace * v / (1 - turn * v), v the letter less the number.
    turn = bend.over(pace)
    lead = pace - place * turn
    return Fraction([place - lead * number, lead], [turn * number + 1, -turn])
