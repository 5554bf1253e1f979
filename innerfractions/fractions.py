"""Fractions: quotients of two polynomials in lowest terms."""

from innerfractions.bare import derived_bare, lessened, multiplied, negated, put_over, summed
from innerfractions.commons import lowest
from innerfractions.errors import Beyond, DividedByZero, InvalidFraction, NoughtBottom, TooMany
from innerfractions.polys import cleared_both, need_polys
from innerfractions.ratios import is_number, pair_of, ratios_over

MOST_DEGREE = 24


class Fraction:
    """A quotient of two polynomials, single by its lowest terms."""

    def __init__(self, top, bottom=(1,)):
        need_polys(top, bottom)
        first, second, _ = cleared_both(top, bottom)
        if not second:
            raise NoughtBottom()
        # INTEGERS without a divisor common to all of them; told only when they are asked for.
        self._top, self._bottom = lowest(first, second)

    @property
    def degree(self):
        """The greater one of both degrees, 0 of nought."""
        return max(len(self._top), len(self._bottom)) - 1

    @property
    def is_full(self):
        """Whether the degree is 1 or more."""
        return self.degree >= 1

    @property
    def is_move(self):
        """Whether the degree is 1."""
        return self.degree == 1

    def upper(self):
        """The top, told."""
        return ratios_over(self._top, self._bottom[-1])

    def lower(self):
        """The bottom, told, its head 1."""
        return ratios_over(self._bottom, self._bottom[-1])

    def __add__(self, other):
        top, bottom = terms_of(other)
        whole = summed(multiplied(self._top, bottom), multiplied(top, self._bottom))
        return fraction_of(whole, multiplied(self._bottom, bottom))

    def __radd__(self, other):
        return self + other

    def __sub__(self, other):
        top, bottom = terms_of(other)
        whole = lessened(multiplied(self._top, bottom), multiplied(top, self._bottom))
        return fraction_of(whole, multiplied(self._bottom, bottom))

    def __rsub__(self, other):
        return -(self - other)

    def __mul__(self, other):
        top, bottom = terms_of(other)
        return fraction_of(multiplied(self._top, top), multiplied(self._bottom, bottom))

    def __rmul__(self, other):
        return self * other

    def __neg__(self):
        return Fraction(negated(self._top), self._bottom)

    def over(self, other):
        """Divided by a Fraction or a NUMBER."""
        top, bottom = terms_of(other)
        if not top:
            raise DividedByZero()
        return fraction_of(multiplied(self._top, bottom), multiplied(self._bottom, top))

    def __eq__(self, other):
        return isinstance(other, Fraction) and self._top == other._top and self._bottom == other._bottom

    def __repr__(self):
        return f"Fraction({self.upper()!r}, {self.lower()!r})"


def need_fraction(value):
    """InvalidFraction unless the value is a Fraction."""
    if not isinstance(value, Fraction):
        raise InvalidFraction(value)


def terms_of(value):
    """Top and bottom, of INTEGERS, of a Fraction or a NUMBER: InvalidFraction of any other value."""
    if isinstance(value, Fraction):
        return value._top, value._bottom
    if not is_number(value):
        raise InvalidFraction(value)
    top, bottom = pair_of(value)
    return [top] if top != 0 else [], [bottom]


def fraction_of(top, bottom):
    """The Fraction of two polynomials of INTEGERS of any degree: TooMany if its own is too great."""
    first, second = lowest(top, bottom)
    if max(len(first), len(second)) - 1 > MOST_DEGREE:
        raise TooMany("degree", MOST_DEGREE)
    return Fraction(first, second)


def letter():
    """The Fraction t."""
    return Fraction((0, 1))


def put(fraction, other):
    """The fraction of the other one."""
    need_fraction(fraction)
    need_fraction(other)
    top, bottom = terms_of(fraction)
    up, down = terms_of(other)
    many = fraction.degree
    # Only of a number there may be none, and then the degrees multiplied are 0.
    if many * other.degree > MOST_DEGREE:
        raise TooMany("degree", MOST_DEGREE)
    under = put_over(bottom, up, down, many)
    if not under:
        raise Beyond()
    return Fraction(put_over(top, up, down, many), under)


def slope(fraction):
    """The fraction to which it is derived."""
    need_fraction(fraction)
    top, bottom = terms_of(fraction)
    whole = lessened(multiplied(derived_bare(top), bottom), multiplied(top, derived_bare(bottom)))
    return fraction_of(whole, multiplied(bottom, bottom))
