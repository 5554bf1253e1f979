"""All fractions inner to a fraction, but for moves."""

from innerfractions.bare import divided_bare, multiplied
from innerfractions.basics import is_count
from innerfractions.classes import told_class
from innerfractions.dividers import products_to
from innerfractions.errors import InvalidMany
from innerfractions.fibres import part_shape
from innerfractions.fractions import Fraction, letter, need_fraction
from innerfractions.lots import bare_factors
from innerfractions.parts import has_square
from innerfractions.refusals import need_degree, need_full
from innerfractions.standings import sorted_fractions
from innerfractions.through import outer_of

MOST_MANY = 8
MOST_DEGREE = 6


def inner_ones(fraction, many):
    """The sorted list of the told Fractions of all inner classes of the degree many."""
    need_fraction(fraction)
    if not is_count(many) or not 1 <= many <= MOST_MANY:
        raise InvalidMany(many)
    need_full(fraction)
    if many not in (1, fraction.degree):
        need_degree(fraction, MOST_DEGREE)
    return inner_of(fraction, many)


def all_inner(fraction):
    """The sorted list of the told Fractions of all inner classes."""
    need_fraction(fraction)
    need_full(fraction)
    need_degree(fraction, MOST_DEGREE)
    return [one for many in range(1, fraction.degree + 1) for one in inner_of(fraction, many)]


def is_whole_fraction(fraction):
    """Whether it has the degree 2 or more, and nothing of a degree between 1 and its own is inner to it."""
    need_fraction(fraction)
    need_full(fraction)
    need_degree(fraction, MOST_DEGREE)
    between = range(2, fraction.degree)
    return fraction.degree >= 2 and not any([inner_of(fraction, many) for many in between])


def inner_of(fraction, many):
    """The sorted list of the told Fractions of all classes of this degree that are inner to a full one."""
    if many == 1:
        return [letter()]
    if many == fraction.degree:
        return [told_class(fraction)]
    if fraction.degree % many != 0:
        return []
    return sorted_fractions(found_inner(fraction, many))


def found_inner(fraction, many):
    """Those of a degree between, in no sequence, by the dividers of the parts at two places.

    The parts of an inner one divide these, and all of its class are quotients of sums of both.
    """
    first, second = two_plain_parts(fraction)
    found = []
    for up in dividers_with_root(first, many):
        for down in dividers_with_root(second, many):
            one = told_class(Fraction(up, down))
            if one not in found and outer_of(fraction, one) is not None:
                found.append(one)
    return found


def two_plain_parts(fraction):
    """The tuples (COUNT, part) of two COUNTS at which the fraction has unlike worths, each at unlike numbers alone."""
    plain, number = [], 0
    while len(plain) < 2:
        part = part_shape(fraction, (number, 1))
        if part[-1] != 0 and not has_square(part) and part not in [other for _, other in plain]:
            plain.append((number, part))
        number = number + 1
    return tuple(plain)


def dividers_with_root(place, many):
    """All dividers, of this degree, of the part at a number that have the number as a root."""
    number, part = place
    line = [-number, 1]
    left = divided_bare(part, line)[1]
    return [multiplied(line, other) for other in products_to(bare_factors(left), many - 1) if len(other) == many]
