"""How the letter comes back from two fractions whose one it is, as two grids."""

from innerfractions.bare import content, multiplied, summed
from innerfractions.fractions import terms_of
from innerfractions.shapes import padded


def back_grids(first, second):
    """Grids top and bottom of INTEGERS: top divided by bottom, the fractions put in for x and y, is t.

    Both have the degree 2 or more, and t is their one. The polynomials in t that tell that the
    first one is x, and the second one y, have just one root in common where both come from one
    place: so, divided by one another down to the degree 1, they leave bottom times t less top.
    """
    lines = [[last_two(rows_at(first, second, x, y)) for y in range(first.degree)] for x in range(second.degree)]
    top = grid_through([[-last for _, last in line] for line in lines])
    bottom = grid_through([[ahead for ahead, _ in line] for line in lines])
    shared = content([number for row in top + bottom for number in row])
    return less_content(top, shared), less_content(bottom, shared)


def less_content(grid, shared):
    """The grid divided by a divisor of all its INTEGERS."""
    return [[number // shared for number in row] for row in grid]


def falling(fraction, worth):
    """The numbers, from the power of the degree down, of top less worth times bottom."""
    top, bottom = terms_of(fraction)
    many = fraction.degree
    return [up - worth * down for up, down in zip(padded(top, many), padded(bottom, many))][::-1]


def rows_at(first, second, x, y):
    """The rows of the powers of t times both polynomials that make one of the degree 1 of them."""
    above, below = first.degree - 1, second.degree - 1
    one, other = falling(first, x), falling(second, y)
    ahead = [[0] * (below - 1 - at) + one + [0] * at for at in range(below - 1, -1, -1)]
    return ahead + [[0] * (above - 1 - at) + other + [0] * at for at in range(above - 1, -1, -1)]


def last_two(rows):
    """The determinants of all columns but the last one, and of all but the one ahead of it (Bareiss)."""
    left, before, sign = rows, 1, 1
    while len(left) > 1:
        fit = [at for at, row in enumerate(left) if row[0] != 0]
        if not fit:
            return 0, 0
        at = fit[0]
        head, others = left[at], left[:at] + left[at + 1:]
        left = [
            [(head[0] * number - row[0] * part) // before for number, part in zip(row[1:], head[1:])] for row in others
        ]
        before, sign = head[0], -sign if at & 1 else sign
    return sign * left[0][0], sign * left[0][1]


def poly_through(worths):
    """The polynomial of INTEGERS, of a lesser degree than they are many, that has these worths at 0, 1, 2, .."""
    leads, row = [], worths
    for many in range(1, len(worths) + 1):
        leads.append(row[0])
        row = [(later - one) // many for one, later in zip(row, row[1:])]
    poly = []
    for number, lead in reversed(list(enumerate(leads))):
        poly = summed(multiplied(poly, [-number, 1]), [lead])
    return padded(poly, len(worths) - 1)


def grid_through(lines):
    """The grid of INTEGERS whose sum is lines[x][y] at the COUNTS x and y."""
    rows = [poly_through(line) for line in lines]
    columns = [poly_through(list(column)) for column in zip(*rows)]
    return [list(row) for row in zip(*columns)]
