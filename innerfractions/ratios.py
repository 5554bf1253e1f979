"""Ratios: fractions of INTEGERS, reckoned exactly."""

from math import gcd, lcm

from innerfractions.basics import is_integer
from innerfractions.errors import DividedByZero, InvalidNumber


class Ratio:
    """A fraction of INTEGERS in lowest terms, the sign always above."""

    def __init__(self, top, bottom=1):
        if not is_integer(top):
            raise InvalidNumber(top)
        if not is_integer(bottom) or bottom == 0:
            raise InvalidNumber(bottom)
        shared = gcd(top, bottom) if bottom > 0 else -gcd(top, bottom)
        self._top = top // shared
        self._bottom = bottom // shared

    @property
    def top(self):
        """The INTEGER above the stroke."""
        return self._top

    @property
    def bottom(self):
        """The INTEGER below the stroke, at least 1."""
        return self._bottom

    @property
    def sign(self):
        """-1, 0 or 1."""
        if self._top == 0:
            return 0
        return 1 if self._top > 0 else -1

    @property
    def is_whole(self):
        """Whether the bottom is 1."""
        return self._bottom == 1

    def __add__(self, other):
        top, bottom = pair_of(other)
        return Ratio(self._top * bottom + top * self._bottom, self._bottom * bottom)

    def __radd__(self, other):
        return self + other

    def __sub__(self, other):
        top, bottom = pair_of(other)
        return Ratio(self._top * bottom - top * self._bottom, self._bottom * bottom)

    def __rsub__(self, other):
        return -(self - other)

    def __mul__(self, other):
        top, bottom = pair_of(other)
        return Ratio(self._top * top, self._bottom * bottom)

    def __rmul__(self, other):
        return self * other

    def __neg__(self):
        return Ratio(-self._top, self._bottom)

    def over(self, other):
        """Divided by a NUMBER."""
        top, bottom = pair_of(other)
        if top == 0:
            raise DividedByZero()
        return Ratio(self._top * bottom, self._bottom * top)

    def size(self):
        """The Ratio without its sign."""
        return Ratio(abs(self._top), self._bottom)

    def is_below(self, other):
        """Whether it is less than a NUMBER."""
        top, bottom = pair_of(other)
        return self._top * bottom < top * self._bottom

    def is_at_most(self, other):
        """Whether it is not greater than a NUMBER."""
        top, bottom = pair_of(other)
        return self._top * bottom <= top * self._bottom

    def __eq__(self, other):
        return isinstance(other, Ratio) and self._top == other._top and self._bottom == other._bottom

    def __str__(self):
        if self._bottom == 1:
            return str(self._top)
        return f"{self._top}/{self._bottom}"

    def __repr__(self):
        return f"Ratio({self._top}, {self._bottom})"

    @classmethod
    def total(cls, numbers):
        """The sum of a list of NUMBERS, 0 of none."""
        if not isinstance(numbers, (list, tuple)):
            raise InvalidNumber(numbers)
        tops, below = cleared(numbers)
        return cls(sum(tops), below)


def is_number(value):
    """Whether any value is a NUMBER, an INTEGER or a Ratio."""
    return isinstance(value, Ratio) or is_integer(value)


def need_number(value):
    """InvalidNumber unless the value is a NUMBER."""
    if not is_number(value):
        raise InvalidNumber(value)


def pair_of(number):
    """The top and the bottom of a NUMBER: InvalidNumber unless it is one."""
    if isinstance(number, Ratio):
        return number._top, number._bottom
    need_number(number)
    return number, 1


def cleared(numbers):
    """INTEGERS and one bottom of all: divided by it they are the numbers."""
    pairs = [pair_of(number) for number in numbers]
    below = 1
    for _, bottom in pairs:
        below = lcm(below, bottom)
    return [top * (below // bottom) for top, bottom in pairs], below


def ratios_over(integers, below):
    """The INTEGERS, each divided by the one below, as Ratios."""
    return [Ratio(number, below) for number in integers]
