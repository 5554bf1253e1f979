"""Curves of several sorts that test files share, and values that are none."""

from helpers import LETTER, STRANGE, draw_fraction
from innerfractions.curves import Curve
from innerfractions.fractions import Fraction, put
from innerfractions.ratios import Ratio

NO_CURVES = [
    None, True, False, 0, "curve", b"", [], (), {}, LETTER, (LETTER, LETTER), [LETTER, LETTER], Ratio(1), object(),
    STRANGE, Curve,
]
NO_POINTS = [
    None, True, 1, "11", b"11", [], (), [1, 2], (1,), (1, 2, 3), (True, 1), (1, False), (1, None), (None, 1), ("1", 1),
    (1, "beyond"), ("beyond", 1),
    ((1, 2),), ([1], [2]), {0: 1, 1: 2}, LETTER, Ratio(1), STRANGE, object(), (LETTER, LETTER), (STRANGE, 1),
]
SQUARE, CUBE, WAVE = Fraction([0, 0, 1]), Fraction([0, 0, 0, 1]), Fraction([1, 0, 1], [0, 1])
LINE, CUSP, KNOT = Curve(LETTER, LETTER * 2 + 1), Curve(SQUARE, CUBE), Curve(
    Fraction([-1, 0, 1]), Fraction([0, -1, 0, 1]),
)
RING = Curve(Fraction([1, 0, -1], [1, 0, 1]), Fraction([0, 2], [1, 0, 1]))
TWICE = Curve(Fraction([1, 0, 0, 0, 1], [0, 0, 1]), Fraction([-1, 0, 1], [0, 1]))
UPRIGHT, LEVEL = Curve(Fraction([Ratio(2, 3)]), WAVE), Curve(CUBE, Fraction([]))
KNOWN = [
    LINE, CUSP, KNOT, RING, TWICE, UPRIGHT, LEVEL, Curve(LETTER, Fraction([4])), Curve(Fraction([-1]), LETTER),
    Curve(WAVE, SQUARE), Curve(CUBE, LETTER),
]
# Plain ones of the degrees 4 and 5.
FOURTH = Curve(Fraction([0, 0, 0, 0, 1]), Fraction([1], [1, 0, 0, 1]))
FIFTH = Curve(Fraction([0] * 5 + [1]), SQUARE)


def draw_curve(draw, most, inner=1, size=3):
    """A curve of two outer ones of the degree most at most, with an inner one of this degree put in."""
    shared = draw_fraction(draw, inner, size)
    first, second = [put(draw_fraction(draw, draw.randint(1, most), size), shared) for _ in range(2)]
    kind = draw.randrange(8)
    if kind == 0:
        return Curve(Fraction([Ratio(draw.randint(-5, 5), 2)]), second)
    if kind == 1:
        return Curve(first, Fraction([Ratio(draw.randint(-5, 5), 2)]))
    return Curve(first, second)


def moved(curve, move):
    """The curve with the move put in."""
    return Curve(put(curve.first(), move), put(curve.second(), move))
