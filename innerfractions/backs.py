"""How the letter comes back from two fractions whose one it is, as two grids."""

from innerfractions.bare import content
from innerfractions.determinants import determinants, grid_through, shifted
from innerfractions.fractions import terms_of
from innerfractions.shapes import padded


def back_grids(first, second):
    """Grids top and bottom of INTEGERS: top divided by bottom, the fractions put in for x and y, is t.

    Both have the degree 2 or more, and t is their one. The polynomials in t that tell that the
    first one is x, and the second one y, have just one root in common where both come from one
    place: so, divided by one another down to the degree 1, they leave bottom times t less top.
    """
    lines = [[last_two(first, second, x, y) for y in range(first.degree)] for x in range(second.degree)]
    top = grid_through([[-last for _, last in line] for line in lines])
    bottom = grid_through([[ahead for ahead, _ in line] for line in lines])
    shared = content([number for row in top + bottom for number in row])
    return less_content(top, shared), less_content(bottom, shared)


def less_content(grid, shared):
    """The grid divided by a divisor of all its INTEGERS."""
    return [[number // shared for number in row] for row in grid]


def falling(fraction, worth):
    """The numbers, from the power of the degree down, of top less worth times bottom."""
    top, bottom = terms_of(fraction)
    many = fraction.degree
    return [up - worth * down for up, down in zip(padded(top, many), padded(bottom, many))][::-1]


def last_two(first, second, x, y):
    """What makes one polynomial of the degree 1 of both, first at x and second at y: its head, its other number."""
    rows = shifted(falling(first, x), second.degree - 1) + shifted(falling(second, y), first.degree - 1)
    head, last = determinants(rows)
    return head, last
