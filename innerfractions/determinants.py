"""Determinants of INTEGERS, resultants of forms, and polynomials through their worths at the first COUNTS."""

from innerfractions.bare import multiplied, summed
from innerfractions.shapes import padded


def shifted(form, many):
    """So many rows with the form, each one place further right than the one ahead, else noughts."""
    return [[0] * at + form + [0] * (many - 1 - at) for at in range(many)]


def determinants(rows):
    """The determinants of all columns but the last ones, and one of these behind them (Bareiss).

    The rows are one or more, and as long as they are many, or longer; each of the last columns
    that are too many makes one more determinant.
    """
    left, before, sign = rows, 1, 1
    while len(left) > 1:
        fit = [at for at, row in enumerate(left) if row[0] != 0]
        if not fit:
            return [0] * (len(rows[0]) - len(rows) + 1)
        at = fit[0]
        head, others = left[at], left[:at] + left[at + 1:]
        left = [
            [(head[0] * number - row[0] * part) // before for number, part in zip(row[1:], head[1:])] for row in others
        ]
        before, sign = head[0], -sign if at & 1 else sign
    return [sign * number for number in left[0]]


def resultant(form, other):
    """The resultant of two forms of INTEGERS: 0 exactly if they have a common root, beyond counted."""
    rows = shifted(form, len(other) - 1) + shifted(other, len(form) - 1)
    return determinants(rows)[0] if rows else 1


def poly_through(worths):
    """The polynomial of INTEGERS, of a lesser degree than they are many, that has these worths at 0, 1, 2, .."""
    leads, row = [], worths
    for many in range(1, len(worths) + 1):
        leads.append(row[0])
        row = [(later - one) // many for one, later in zip(row, row[1:])]
    poly = []
    for number, lead in reversed(list(enumerate(leads))):
        poly = summed(multiplied(poly, [-number, 1]), [lead])
    return padded(poly, len(worths) - 1)


def grid_through(lines):
    """The grid of INTEGERS whose sum is lines[x][y] at the COUNTS x and y."""
    rows = [poly_through(line) for line in lines]
    columns = [poly_through(list(column)) for column in zip(*rows)]
    return [list(row) for row in zip(*columns)]
