"""Places: the numbers, and the one beyond all numbers; the worths of fractions at them.

Inside, a place is a SPOT: a tuple of two INTEGERS, the first one divided by the second one,
(1, 0) beyond. So nothing that is reckoned at a place asks which of both it is.
"""

from innerfractions.bare import worth_over
from innerfractions.errors import InvalidPlace
from innerfractions.fractions import need_fraction, terms_of
from innerfractions.ratios import Ratio, is_number, pair_of

BEYOND = "beyond"


def is_place(value):
    """Whether any value is a place."""
    return is_number(value) or (isinstance(value, str) and value == BEYOND)


def need_place(value):
    """InvalidPlace unless the value is a place."""
    if not is_place(value):
        raise InvalidPlace(value)


def told_place(place):
    """The place as a Ratio, or the text for the one beyond."""
    return place_at(spot_of(place))


def worth(fraction, place):
    """The worth of the fraction at the place, told."""
    need_fraction(fraction)
    return place_at(worth_at(fraction, spot_of(place)))


def spot_of(place):
    """The place as a spot in lowest terms, single for each place: InvalidPlace unless it is one."""
    need_place(place)
    return pair_of(place) if is_number(place) else (1, 0)


def place_at(spot):
    """The place of a spot, told."""
    up, down = spot
    return Ratio(up, down) if down != 0 else BEYOND


def worth_at(fraction, spot):
    """The worth of the fraction at the spot, as a spot.

    Top and bottom are not both 0 there, since they have no common root, nor both less than
    the fraction's degree.
    """
    top, bottom = terms_of(fraction)
    up, down = spot
    many = fraction.degree
    return worth_over(top, up, down, many), worth_over(bottom, up, down, many)
