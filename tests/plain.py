"""Fractions, places and forms reckoned anew, in the plainest way, with Python's own fractions.

A fraction is here a tuple (top, bottom) of lists of numbers; a form is a list of numbers.
"""

from fractions import Fraction as Exact

import reference
from helpers import exact, ratio

BEYOND = "beyond"


def terms(fraction):
    """The top and the bottom of a Fraction."""
    return reference.of(fraction.upper()), reference.of(fraction.lower())


def degree(pair):
    return max(len(pair[0]) - 1, len(pair[1]) - 1, 0)


def spot(place):
    """A place as a number of Python's own, or the text."""
    return place if isinstance(place, str) else exact(place)


def told(place):
    """The place as the program tells it."""
    return place if isinstance(place, str) else ratio(place)


def worth(pair, place):
    """[6]: the worth of top over bottom, in lowest terms, at a number or beyond."""
    top, bottom = pair
    if place == BEYOND:
        if len(top) > len(bottom):
            return BEYOND
        return Exact(0) if len(top) < len(bottom) else top[-1] / bottom[-1]
    up, down = reference.worth(top, place), reference.worth(bottom, place)
    return up / down if down else BEYOND


def padded(poly, many):
    return list(poly) + [Exact(0)] * (many + 1 - len(poly))


def padded_ratios(poly, many):
    return [ratio(number) for number in padded(poly, many)]


def fibre(pair, place):
    """[42]: the form whose roots have this worth."""
    top, bottom = pair
    poly = bottom if place == BEYOND else reference.minus(top, reference.scaled(bottom, place))
    return padded(poly, degree(pair))


def part(pair, place):
    """[43]."""
    return fibre(pair, worth(pair, place))


def one(form):
    """[7]: the told form that a form is like."""
    last = reference.cut(form)[-1]
    return [ratio(number / last) for number in form]


def noughts(form):
    return len(form) - len(reference.cut(form))


def common(form, other):
    """[41]: the common form."""
    poly = reference.common(reference.cut(form), reference.cut(other))
    return padded(poly, len(poly) - 1 + min(noughts(form), noughts(other)))


def divides(form, other):
    """[41]: whether each root of the one stands at least as often in the other one."""
    return len(common(form, other)) == len(form)


def often(form, place):
    """How often the place is a root of the form."""
    if place == BEYOND:
        return noughts(form)
    poly, many = reference.cut(form), 0
    while len(poly) > 1 and reference.worth(poly, place) == 0:
        poly, many = reference.divided(poly, [-place, Exact(1)])[0], many + 1
    return many


def put(pair, other):
    """[32]: the one with the other one in the place of t; None if it is beyond there."""
    many = degree(pair)
    ups, downs = [[Exact(1)]], [[Exact(1)]]
    for _ in range(many):
        ups, downs = ups + [reference.times(ups[-1], other[0])], downs + [reference.times(downs[-1], other[1])]
    made = []
    for poly in pair:
        total = []
        for at, number in enumerate(poly):
            total = reference.plus(total, reference.scaled(reference.times(ups[at], downs[many - at]), number))
        made.append(total)
    return lowest(*made) if made[1] else None


def lowest(top, bottom):
    """In lowest terms, the bottom's head 1."""
    shared = reference.common(top, bottom)
    up, down = reference.divided(top, shared)[0], reference.divided(bottom, shared)[0]
    return reference.scaled(up, 1 / down[-1]), reference.scaled(down, 1 / down[-1])


def is_inner(pair, other):
    """[52]: whether at 2 n m + m + 1 places the part of the other one divides that of the one."""
    many, fewer = degree(pair), degree(other)
    places = [Exact(at) for at in range(2 * many * fewer + fewer + 1)]
    return all(divides(part(other, place), part(pair, place)) for place in places)


def standing(fraction):
    """[34]: what Fractions are sorted by."""
    top, bottom = [[exact(number) for number in poly] for poly in (fraction.upper(), fraction.lower())]
    return fraction.degree, top, bottom
