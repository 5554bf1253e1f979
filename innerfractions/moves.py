"""Moves: fractions (a t + b) / (c t + d) of the degree 1, inside as the tuple (a, b, c, d) of INTEGERS."""

from innerfractions.basics import is_integer
from innerfractions.errors import InvalidMove, InvalidPlaces, InvalidPower
from innerfractions.fractions import Fraction, terms_of
from innerfractions.places import is_place, spot_of
from innerfractions.shapes import padded, places_in, shaped

MOST_POWER = 20
# Over fractions a move has one of the orders 1, 2, 3, 4 and 6, or none.
MOST_ORDER = 6


def is_move(value):
    """Whether any value is a Fraction of the degree 1."""
    return isinstance(value, Fraction) and value.is_move


def need_move(value):
    """InvalidMove unless the value is a move."""
    if not is_move(value):
        raise InvalidMove(value)


def need_places(value):
    """InvalidPlaces unless the value is a list of three unlike places."""
    if not isinstance(value, (list, tuple)) or len(value) != 3 or not all([is_place(place) for place in value]):
        raise InvalidPlaces(value)
    if len(set([spot_of(place) for place in value])) != 3:
        raise InvalidPlaces(value)


def numbers_of(move):
    """The numbers (a, b, c, d) of the move."""
    top, bottom = terms_of(move)
    b, a = padded(top, 1)
    d, c = padded(bottom, 1)
    return a, b, c, d


def move_of(numbers):
    """The move of the numbers (a, b, c, d)."""
    a, b, c, d = numbers
    return Fraction([b, a], [d, c])


def within(numbers, others):
    """The numbers of the one move of the other one."""
    a, b, c, d = numbers
    p, q, r, s = others
    return a * p + b * r, a * q + b * s, c * p + d * r, c * q + d * s


def back(numbers):
    """The numbers of the move undone."""
    a, b, c, d = numbers
    return d, -b, -c, a


def is_still(numbers):
    """Whether the move is t."""
    a, b, c, d = numbers
    return a == d and b == 0 and c == 0


def led_from_three(places):
    """The numbers of the move that leads beyond, 1 and 0 to the three places.

    Beyond is led to the first spot and 0 to the last one, whatever both are multiplied by; by
    these multiples their sum, to which 1 is led, is a multiple of the spot between.
    """
    (first, under_first), (second, under_second), (third, under_third) = [spot_of(place) for place in places]
    ahead = second * under_third - third * under_second
    behind = first * under_second - second * under_first
    return ahead * first, behind * third, ahead * under_first, behind * under_third


def move_by(places, goals):
    """The move that leads the three places, in sequence, to the goals."""
    need_places(places)
    need_places(goals)
    return move_of(within(led_from_three(goals), back(led_from_three(places))))


def undone(move):
    """The move that leads each worth back to its place."""
    need_move(move)
    return move_of(back(numbers_of(move)))


def fixed_places(move):
    """The sorted list of the places that are their own worths; None for t."""
    need_move(move)
    a, b, c, d = numbers_of(move)
    if is_still((a, b, c, d)):
        return None
    return [place for place, _ in places_in(shaped([-b, d - a, c]))]


def power(move, many):
    """The power of the move."""
    need_move(move)
    if not is_integer(many) or abs(many) > MOST_POWER:
        raise InvalidPower(many)
    one = numbers_of(move) if many > 0 else back(numbers_of(move))
    whole = (1, 0, 0, 1)
    for _ in range(abs(many)):
        whole = within(whole, one)
    return move_of(whole)


def order(move):
    """The least COUNT above 0 whose power is t; None if there is none."""
    need_move(move)
    one = numbers_of(move)
    whole = one
    for many in range(1, MOST_ORDER + 1):
        if is_still(whole):
            return many
        whole = within(whole, one)
    return None
