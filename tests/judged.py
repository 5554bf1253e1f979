"""Steps judged anew: by the numbers to which they come at places, in Python's own fractions."""

from fractions import Fraction as Exact

import plain
from helpers import exact, is_told


def is_grid_told(grid):
    """Whether it is a list of 1 to 9 lists, alike long, of 1 to 9 Ratios."""
    if not isinstance(grid, list) or not 1 <= len(grid) <= 9 or not all(isinstance(row, list) for row in grid):
        return False
    flat = [number for row in grid for number in row]
    return all(len(row) == len(grid[0]) and 1 <= len(row) <= 9 for row in grid) and is_told([*flat, plain.ratio(Exact(1))])


def are_steps_told(steps, many):
    """Whether it is a list of 1 to 6 told steps with positions that there are."""
    if not isinstance(steps, list) or not 1 <= len(steps) <= 6:
        return False
    for at, step in enumerate(steps):
        if not isinstance(step, tuple) or len(step) != 4 or not is_grid_told(step[2]) or not is_grid_told(step[3]):
            return False
        if not all(type(place) is int and 0 <= place < many + at for place in step[:2]):
            return False
    return True


def has_small_numbers(steps):
    """Whether no number has more than 2,000 digits above or below the stroke."""
    numbers = [number for step in steps for grid in step[2:] for row in grid for number in row]
    return all(abs(number.top) < 10 ** 2000 and number.bottom < 10 ** 2000 for number in numbers)


def grid_worth(grid, x, y):
    total = Exact(0)
    for row in reversed(grid):
        inner = Exact(0)
        for number in reversed(row):
            inner = inner * y + exact(number)
        total = total * x + inner
    return total


def worth_of_steps(fractions, steps, place):
    """What the last step comes to at a number; None where a fraction is beyond, or a bottom comes to 0 there."""
    held = [plain.worth(plain.terms(fraction), place) for fraction in fractions]
    for first, second, top, bottom in steps:
        if plain.BEYOND in (held[first], held[second]):
            return None
        below = grid_worth(bottom, held[first], held[second])
        if below == 0:
            return None
        held.append(grid_worth(top, held[first], held[second]) / below)
    return held[-1]


def last_is(fractions, steps, fraction):
    """Whether the last result is the fraction: both have a degree up to 24, and one worth at enough places."""
    met, number = 0, Exact(1, 2)
    while met < 24 + fraction.degree + 1:
        made, wanted = worth_of_steps(fractions, steps, number), plain.worth(plain.terms(fraction), number)
        if made is not None and wanted != plain.BEYOND:
            if made != wanted:
                return False
            met += 1
        number += 1
        if number > 500:
            return False
    return True
