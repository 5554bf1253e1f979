"""Fractions of polynomials of INTEGERS of great degrees, brought to lowest terms modulo great primes."""

from innerfractions.bare import multiplied, raised
from innerfractions.commons import lowest
from innerfractions.fractions import Fraction
from innerfractions.polys import cleared_both
from innerfractions.ratios import Ratio
from innerfractions.residues import common_modulo, divided_modulo, inverse, residues

# 2 to each of these powers, less 1, is a prime.
EXPONENTS = (127, 521, 2203, 9689, 44497)


def reduced(top, bottom, most):
    """The Fraction of both, the bottom not nought; None if it has a degree above most."""
    if not top or max(len(top), len(bottom)) - 1 <= most:
        return Fraction(top, bottom) if top else Fraction([])
    for exponent in EXPONENTS:
        prime = raised(2, exponent) - 1
        # Where the prime divides no head, each common part stays of its degree: so what is left
        # of top and bottom there has at most the degrees of their lowest terms.
        if top[-1] % prime != 0 and bottom[-1] % prime != 0:
            up, down = lowest_modulo(residues(top, prime), residues(bottom, prime), prime)
            if max(len(up), len(down)) - 1 > most:
                return None
            up, down, _ = cleared_both(rebuilt(up, prime), rebuilt(down, prime))
            if multiplied(top, down) == multiplied(bottom, up):
                return Fraction(up, down)
    return short_fraction(lowest(top, bottom), most)


def short_fraction(terms, most):
    """The Fraction of top and bottom in lowest terms; None if it has a degree above most."""
    up, down = terms
    return Fraction(up, down) if max(len(up), len(down)) - 1 <= most else None


def lowest_modulo(top, bottom, prime):
    """Top and bottom there without their common part, the bottom's head 1."""
    shared = common_modulo(top, bottom, prime)
    up, _ = divided_modulo(top, shared, prime)
    down, _ = divided_modulo(bottom, shared, prime)
    back = inverse(down[-1], prime)
    return [number * back % prime for number in up], [number * back % prime for number in down]


def rebuilt(poly, prime):
    """For each number the quotient of small INTEGERS that has this rest."""
    return [small_quotient(number, prime) for number in poly]


def small_quotient(number, prime):
    """The Ratio that has this rest, if its top and its bottom are small against the prime."""
    first, second, here, there = prime, number, 0, 1
    while 2 * second * second > prime:
        many = first // second
        first, second = second, first - many * second
        here, there = there, here - many * there
    return Ratio(second, there)
