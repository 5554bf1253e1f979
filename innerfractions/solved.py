"""Rows in steps, what rows lead to 0, and solutions."""

from math import gcd, lcm

from innerfractions.bare import without_content
from innerfractions.basics import is_count
from innerfractions.errors import InvalidGoals, InvalidMany, InvalidRows
from innerfractions.ratios import Ratio, cleared, is_number, ratios_over

MOST_ROWS = 60
MOST_WIDE = 40


def are_numbers(value):
    """Whether any value is a list of NUMBERS."""
    return isinstance(value, (list, tuple)) and all([is_number(number) for number in value])


def are_rows(value):
    """Whether any value is a list of 0 to 60 rows."""
    if not isinstance(value, (list, tuple)) or len(value) > MOST_ROWS:
        return False
    if not all([are_numbers(row) and 1 <= len(row) <= MOST_WIDE for row in value]):
        return False
    return all([len(row) == len(value[0]) for row in value])


def need_rows(rows):
    """InvalidRows unless the value is a list of rows."""
    if not are_rows(rows):
        raise InvalidRows(rows)


def need_goals(rows, goals):
    """InvalidRows unless there are rows, InvalidGoals unless each one has its goal."""
    if not are_rows(rows) or not rows:
        raise InvalidRows(rows)
    if not are_numbers(goals) or len(goals) != len(rows):
        raise InvalidGoals(goals)


def in_integers(row):
    """INTEGERS without a common divisor, of which the row is a multiple."""
    return without_content(cleared(row)[0])


def head_at(row):
    """The position of the first number that is not 0."""
    at = 0
    while row[at] == 0:
        at = at + 1
    return at


def cancelled(row, other, at):
    """The row less as much of the other one as makes its number at the position 0, times a number."""
    if row[at] == 0:
        return row
    shared = gcd(row[at], other[at])
    up, down = other[at] // shared, row[at] // shared
    return without_content([up * number - down * part for number, part in zip(row, other)])


def stepped(rows, wide):
    """The steps of rows of INTEGERS, each without a common divisor in the place of the head 1."""
    done, left = [], rows
    for at in range(wide):
        fit = [row for row in left if row[at] != 0]
        if fit:
            other = fit[0]
            done = [cancelled(row, other, at) for row in done] + [other]
            less = [cancelled(row, other, at) for row in fit[1:]] + [row for row in left if row[at] == 0]
            left = [row for row in less if any(row)]
    return done


def with_heads_one(rows):
    """Rows of INTEGERS in steps, each divided by its head."""
    return [ratios_over(row, row[head_at(row)]) for row in rows]


def steps(rows):
    """The steps of the rows."""
    need_rows(rows)
    wide = len(rows[0]) if rows else 0
    return with_heads_one(stepped([in_integers(row) for row in rows], wide))


def kernel(rows, wide):
    """In steps, the lists of this width that make all that each row leads to 0."""
    need_rows(rows)
    if not is_count(wide) or not 1 <= wide <= MOST_WIDE:
        raise InvalidMany(wide)
    if rows and len(rows[0]) != wide:
        raise InvalidRows(rows)
    done = stepped([in_integers(row) for row in rows], wide)
    heads = {head_at(row): row for row in done}
    loose = [kernel_row(heads, at, wide) for at in range(wide) if at not in heads]
    return with_heads_one(stepped(loose, wide))


def kernel_row(heads, at, wide):
    """The list led to 0 whose only number at a place without a head is the one at this place.

    heads: a dict of the rows in steps by the places of their heads.
    """
    below = 1
    for place, head in heads.items():
        below = lcm(below, head[place])
    row = [0] * wide
    row[at] = below
    for place, head in heads.items():
        row[place] = -head[at] * (below // head[place])
    return without_content(row)


def solution(rows, goals):
    """A list that each row leads to its goal, as many of its numbers 0 as may be; None if there is none."""
    need_goals(rows, goals)
    wide = len(rows[0])
    done = stepped([in_integers([*row, goal]) for row, goal in zip(rows, goals)], wide + 1)
    heads = {head_at(row): row for row in done}
    if wide in heads:
        return None
    return [Ratio(heads[at][wide], heads[at][at]) if at in heads else Ratio(0) for at in range(wide)]


def is_solution(rows, goals, value):
    """Whether any value is a list that each row leads to its goal."""
    need_goals(rows, goals)
    if not are_numbers(value) or len(value) != len(rows[0]):
        return False
    tops, below = cleared(value)
    return all([is_led(row, goal, tops, below) for row, goal in zip(rows, goals)])


def is_led(row, goal, tops, below):
    """Whether the row leads the INTEGERS, each divided by the one below, to the goal."""
    integers, _ = cleared([*row, goal])
    return sum([number * top for number, top in zip(integers, tops)]) == integers[-1] * below
