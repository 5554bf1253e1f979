"""What is made of told fractions by sums, products, quotients and numbers, and by which steps."""

from innerfractions.backs import back_grids
from innerfractions.basics import is_count
from innerfractions.fractions import need_fraction
from innerfractions.grids import column, grid_quotient, in_ratios, is_grid
from innerfractions.ones import the_one
from innerfractions.refusals import MOST_TOLD_DEGREE, need_degree, need_fractions
from innerfractions.through import outer_of

MOST_STEPS = 6


def need_made(fractions, fraction):
    """The errors of told ones and of a fraction that may be made of them."""
    need_fractions(fractions)
    need_fraction(fraction)
    need_degree(fraction, MOST_TOLD_DEGREE)


def is_made(fractions, fraction):
    """Whether the fraction is made of the told ones."""
    need_made(fractions, fraction)
    return is_fraction_of(fraction, the_one(fractions))


def is_fraction_of(fraction, one):
    """Whether the fraction is a number, or the one is inner to it."""
    return not fraction.is_full or outer_of(fraction, one) is not None


def made_steps(fractions, fraction):
    """Steps whose last result the fraction is; None if it is not made of the told ones."""
    need_made(fractions, fraction)
    if not is_fraction_of(fraction, the_one(fractions)):
        return None
    alone = [at for at, one in enumerate(fractions) if is_fraction_of(fraction, one)]
    if alone:
        return [last_step(fraction, fractions[alone[0]], alone[0])]
    steps, held, at = steps_towards(fractions, fraction)
    return steps if fraction == held else steps + [last_step(fraction, held, at)]


def is_made_steps(fractions, fraction, value):
    """Whether any value is steps whose last result the fraction is."""
    need_made(fractions, fraction)
    if not isinstance(value, (list, tuple)) or not 1 <= len(value) <= MOST_STEPS:
        return False
    held = list(fractions)
    for step in value:
        result = result_of(step, held)
        if result is None:
            return False
        held.append(result)
    return held[-1] == fraction


def is_finer(fractions, others):
    """Whether each of the others is made of the told ones."""
    need_fractions(fractions)
    need_fractions(others)
    one = the_one(fractions)
    return all([is_fraction_of(other, one) for other in others])


def is_step(value, many):
    """Whether any value is a step of which both positions are below many."""
    if not isinstance(value, tuple) or len(value) != 4:
        return False
    first, second, top, bottom = value
    if not is_count(first) or not is_count(second) or first >= many or second >= many:
        return False
    return is_grid(top) and is_grid(bottom)


def result_of(step, held):
    """The result of a step with what is held so far; None if it is none, or has no result."""
    if not is_step(step, len(held)):
        return None
    first, second, top, bottom = step
    return grid_quotient(top, bottom, held[first], held[second])


def last_step(fraction, one, at):
    """The step from the one, at a position, alone to the fraction, a number or a fraction of the one."""
    if not fraction.is_full:
        return at, at, column(fraction.upper()), column(fraction.lower())
    outer = outer_of(fraction, one)
    return at, at, column(outer.upper()), column(outer.lower())


def steps_towards(fractions, fraction):
    """A tuple of steps, a fraction of which the one that is made comes, and its position among told ones and results.

    Fractions of lesser degrees are taken first, since their grids are smaller. So what is joined
    to the one held has at least its degree, and neither is made of the other one.
    """
    ranks = sorted([(one.degree, number) for number, one in enumerate(fractions)])
    places = [number for _, number in ranks]
    steps, at = [], places[0]
    held = fractions[at]
    for place in places[1:]:
        if not is_fraction_of(fraction, held):
            other = fractions[place]
            shared = the_one([held, other])
            if shared.degree < held.degree:
                top, bottom = back_grids(outer_of(held, shared), outer_of(other, shared))
                steps.append((at, place, in_ratios(top), in_ratios(bottom)))
                held, at = shared, len(fractions) + len(steps) - 1
    return steps, held, at
