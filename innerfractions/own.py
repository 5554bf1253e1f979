"""Moves that a fraction does not notice, and moves that lead one fraction to another one."""

from innerfractions.fractions import need_fraction, put
from innerfractions.inside import moves_inside
from innerfractions.moves import is_move
from innerfractions.refusals import need_both, need_degree, need_full
from innerfractions.standings import sorted_fractions

MOST_DEGREE = 8


def need_own(fraction):
    """The errors of the one fraction that has own moves."""
    need_fraction(fraction)
    need_full(fraction)
    need_degree(fraction, MOST_DEGREE)


def own_moves(fraction):
    """The sorted list of its own moves."""
    need_own(fraction)
    return sorted_fractions(moves_inside(fraction, fraction))


def is_own_move(fraction, value):
    """Whether any value is one of its own moves."""
    need_own(fraction)
    return is_move(value) and put(fraction, value) == fraction


def is_round(fraction):
    """Whether it has as many own moves as its degree tells."""
    need_own(fraction)
    return len(moves_inside(fraction, fraction)) == fraction.degree


def inside_move(fraction, other):
    """A move m such that the other one is the fraction of m; None if there is none."""
    need_both(fraction, other)
    for one in (fraction, other):
        need_full(one)
    for one in (fraction, other):
        need_degree(one, MOST_DEGREE)
    moves = moves_inside(fraction, other)
    return moves[0] if moves else None
