"""What several functions refuse of the fractions that they are passed."""

from innerfractions.errors import InvalidFractions, NotFull, TooMany
from innerfractions.fractions import Fraction, need_fraction

MOST_TOLD = 4
MOST_TOLD_DEGREE = 8


def need_both(fraction, other):
    """InvalidFraction with the first of both that is no Fraction."""
    need_fraction(fraction)
    need_fraction(other)


def need_full(fraction):
    """NotFull unless the Fraction is full."""
    if not fraction.is_full:
        raise NotFull()


def need_degree(fraction, most):
    """TooMany if the Fraction has a greater degree."""
    if fraction.degree > most:
        raise TooMany("degree", most)


def is_told_one(value):
    """Whether any value is a full Fraction of a degree that may be told."""
    return isinstance(value, Fraction) and 1 <= value.degree <= MOST_TOLD_DEGREE


def are_told_ones(value):
    """Whether any value is a list of one to four Fractions that may be told."""
    if not isinstance(value, (list, tuple)) or not 1 <= len(value) <= MOST_TOLD:
        return False
    return all([is_told_one(fraction) for fraction in value])


def need_fractions(value):
    """InvalidFractions unless the value is a list of one to four Fractions that may be told."""
    if not are_told_ones(value):
        raise InvalidFractions(value)
