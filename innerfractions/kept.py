"""What shows that a fraction is not made of told ones."""

from innerfractions.fractions import Fraction
from innerfractions.made import is_fraction_of, need_made
from innerfractions.ones import are_made_of, the_one
from innerfractions.outer import are_parted, first_parting_place
from innerfractions.places import is_place, spot_of


def kept_apart(fractions, fraction):
    """A pair that keeps the fraction apart from the told ones; None if it is made of them."""
    need_made(fractions, fraction)
    one = the_one(fractions)
    return None if is_fraction_of(fraction, one) else (one, first_parting_place(fraction, one))


def is_kept_apart(fractions, fraction, value):
    """Whether any value is a pair that keeps the fraction apart from the told ones."""
    need_made(fractions, fraction)
    if not isinstance(value, tuple) or len(value) != 2:
        return False
    one, place = value
    if not isinstance(one, Fraction) or not one.is_full or not is_place(place):
        return False
    # A number has no parts, and is made of whatever is told.
    return fraction.is_full and are_made_of(fractions, one) and are_parted(fraction, one, spot_of(place))
