"""Curves that two fractions draw."""

from innerfractions.errors import InvalidCurve, NumbersAlone
from innerfractions.fractions import need_fraction
from innerfractions.ones import one_of
from innerfractions.places import place_at, spot_of, worth_at
from innerfractions.refusals import MOST_TOLD_DEGREE, need_degree
from innerfractions.through import outer_of


class Curve:
    """All points of two fractions, its first and its second one."""

    def __init__(self, first, second):
        need_fraction(first)
        need_fraction(second)
        if not first.is_full and not second.is_full:
            raise NumbersAlone()
        need_degree(first, MOST_TOLD_DEGREE)
        need_degree(second, MOST_TOLD_DEGREE)
        self._first = first
        self._second = second

    def first(self):
        """The first Fraction."""
        return self._first

    def second(self):
        """The second Fraction."""
        return self._second

    def point(self, place):
        """The tuple of the worths of both at the place."""
        spot = spot_of(place)
        return place_at(worth_at(self._first, spot)), place_at(worth_at(self._second, spot))

    def plain(self):
        """The Curve of the outer ones of the one of both."""
        one = shared_one(self._first, self._second)
        return Curve(outer_or_number(self._first, one), outer_or_number(self._second, one))

    def passes(self):
        """How often the curve is passed."""
        return shared_one(self._first, self._second).degree

    def __eq__(self, other):
        return isinstance(other, Curve) and self._first == other._first and self._second == other._second

    def __repr__(self):
        return f"Curve({self._first!r}, {self._second!r})"


def need_curve(value):
    """InvalidCurve unless the value is a Curve."""
    if not isinstance(value, Curve):
        raise InvalidCurve(value)


def shared_one(first, second):
    """The one of those of both that are full."""
    return one_of([fraction for fraction in (first, second) if fraction.is_full])


def outer_or_number(fraction, one):
    """The fraction itself, if it is a number; else its outer one of the one."""
    return outer_of(fraction, one) if fraction.is_full else fraction
