"""What is inner to several fractions, what several are inner to, and what stands between."""

from innerfractions.errors import NotInner
from innerfractions.fractions import need_fraction
from innerfractions.halves import all_inner
from innerfractions.ones import one_of
from innerfractions.refusals import MOST_TOLD_DEGREE, need_degree, need_full
from innerfractions.through import outer_of


def need_all_full(fractions):
    """InvalidFraction with the first that is no Fraction; NotFull unless all are full."""
    for fraction in fractions:
        need_fraction(fraction)
    for fraction in fractions:
        need_full(fraction)


def joined(fraction, other):
    """The told Fraction of the class of the one of both."""
    need_all_full([fraction, other])
    need_degree(fraction, MOST_TOLD_DEGREE)
    need_degree(other, MOST_TOLD_DEGREE)
    return one_of([fraction, other])


def met(fraction, inner, other):
    """The told Fraction of the least class inner to the fraction to which inner and other are inner."""
    need_all_full([fraction, inner, other])
    if not are_inner(fraction, inner, other):
        raise NotInner()
    # All inner ones stand by their degrees, and of the least degree there is just one.
    return [one for one in all_inner(fraction) if are_inner(one, inner, other)][0]


def are_inner(fraction, inner, other):
    """Whether both are inner to the full fraction."""
    return outer_of(fraction, inner) is not None and outer_of(fraction, other) is not None


def chains(fraction):
    """The sorted list of all chains of the fraction."""
    ones = all_inner(fraction)
    inner = [[outer_of(one, other) is not None for other in ones] for one in ones]
    # All chains are lists of positions first: so they are sorted as the fractions are.
    ending = [[[0]]]
    for place in range(1, len(ones)):
        ahead = [other for other in range(place) if is_next(inner, other, place)]
        longer = [chain + [place] for other in ahead for chain in ending[other]]
        ending.append(longer)
    return [[ones[at] for at in chain] for chain in sorted(ending[-1])]


def is_next(inner, first, last):
    """Whether the one at the first position is inner to that at the last one, with none between."""
    between = [place for place in range(first + 1, last) if inner[place][first] and inner[last][place]]
    return inner[last][first] and not between
