"""Grids: sums of numbers times powers of two letters x and y; what they come to with fractions put in."""

from innerfractions.bare import multiplied, scaled_by, summed, trimmed
from innerfractions.fractions import MOST_DEGREE
from innerfractions.ratios import Ratio, cleared
from innerfractions.solved import are_numbers
from innerfractions.through import powers_over
from innerfractions.wide import reduced

MOST_WIDE = 9


def is_grid(value):
    """Whether any value is a list of 1 to 9 lists, alike long, of 1 to 9 NUMBERS."""
    if not isinstance(value, (list, tuple)) or not 1 <= len(value) <= MOST_WIDE:
        return False
    if not all([are_numbers(row) and 1 <= len(row) <= MOST_WIDE for row in value]):
        return False
    return all([len(row) == len(value[0]) for row in value])


def cleared_grid(grid):
    """The rows of the grid as INTEGERS, and the one bottom below them."""
    integers, below = cleared([number for row in grid for number in row])
    wide = len(grid[0])
    return [integers[at:at + wide] for at in range(0, len(integers), wide)], below


def powers_of(rows):
    """The greatest powers of x and of y whose numbers are not all 0, 0 where there is none."""
    high = [i for i, row in enumerate(rows) if any(row)]
    wide = [len(trimmed(row)) - 1 for row in rows]
    return max(high, default=0), max(0, max(wide))


def sum_over(rows, ups, downs):
    """The sum of all rows[i][j] times the polynomials ups[i] and downs[j]; behind these all numbers are 0."""
    total = []
    for row, up in zip(rows, ups):
        part = []
        for number, down in zip(row, downs):
            part = summed(part, scaled_by(down, number))
        total = summed(total, multiplied(up, part))
    return total


def grid_sums(top, bottom, first, second):
    """Two polynomials of INTEGERS whose quotient both grids come to, the Fractions put in for x and y.

    The second one is nought exactly if bottom comes to 0.
    """
    up, over = cleared_grid(top)
    down, under = cleared_grid(bottom)
    (up_high, up_wide), (down_high, down_wide) = powers_of(up), powers_of(down)
    # Both sums stand over the same product of bottoms, which is left out.
    ups = powers_over(first, max(up_high, down_high))
    downs = powers_over(second, max(up_wide, down_wide))
    return scaled_by(sum_over(up, ups, downs), under), scaled_by(sum_over(down, ups, downs), over)


def grid_quotient(top, bottom, first, second):
    """The Fraction top divided by bottom, with the first Fraction for x and the second one for y.

    None if bottom comes to 0, or if it has a degree above 24.
    """
    above, below = grid_sums(top, bottom, first, second)
    return reduced(above, below, MOST_DEGREE) if below else None


def column(poly):
    """The grid of a polynomial in x alone."""
    return [[number] for number in poly] if poly else [[Ratio(0)]]


def in_ratios(grid):
    """The grid with Ratios for its INTEGERS."""
    return [[Ratio(number) for number in row] for row in grid]
