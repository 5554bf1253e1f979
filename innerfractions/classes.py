"""Classes of fractions: all that moves make of a fraction."""

from innerfractions.fractions import Fraction, need_fraction, terms_of
from innerfractions.refusals import need_both, need_full
from innerfractions.shapes import padded
from innerfractions.solved import stepped
from innerfractions.through import outer_of


def need_both_full(fraction, other):
    """The errors of two fractions that are to have classes."""
    need_both(fraction, other)
    need_full(fraction)
    need_full(other)


def told_class(fraction):
    """The told Fraction of the class of a full one."""
    many = fraction.degree
    rows = [padded(poly, many)[::-1] for poly in terms_of(fraction)]
    first, second = stepped(rows, many + 1)
    # Steps stand for rows with the head 1, so the one number below the stroke is put back.
    head, under = first[0], [number for number in second if number != 0][0]
    return Fraction([under * number for number in first[::-1]], [head * number for number in second[::-1]])


def class_of(fraction):
    """The told Fraction of the class."""
    need_fraction(fraction)
    need_full(fraction)
    return told_class(fraction)


def same_class(fraction, other):
    """Whether both are of one class."""
    need_both_full(fraction, other)
    return told_class(fraction) == told_class(other)


def move_between(fraction, other):
    """The move that leads the fraction to the other one; None unless they are of one class."""
    need_both_full(fraction, other)
    if fraction.degree != other.degree:
        return None
    return outer_of(other, fraction)
