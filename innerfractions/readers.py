"""Values read from their written forms, line by line.

A line is looked at only where all lines ahead of it are those of some written form; so the first
one that does not fit is the wrong line.
"""

from innerfractions.errors import InvalidText
from innerfractions.forms import is_form, told_form
from innerfractions.fractions import Fraction
from innerfractions.grids import MOST_WIDE
from innerfractions.made import MOST_STEPS
from innerfractions.numerals import count_in, number_in, numbers_in
from innerfractions.places import BEYOND
from innerfractions.polys import is_poly
from innerfractions.refusals import MOST_TOLD
from innerfractions.texts import MOST_NUMBERS


def read(text):
    """A tuple of the sort and the value that has this written form."""
    if not isinstance(text, str):
        raise InvalidText(0)
    pieces = text.split("\n")
    # The piece behind the last line feed is no line.
    rows = [piece.split(" ") for piece in pieces[:-1]]
    sort, value, at = read_rows(rows)
    if at < len(rows) or pieces[-1] != "":
        raise InvalidText(at + 1)
    return sort, value


def read_rows(rows):
    """A tuple of the sort, the value, and how many lines it has; each line is a list of words."""
    head = rows[0] if rows else [""]
    if head[0] == "top":
        return "fraction", read_fraction(rows), 2
    if head == ["grid"]:
        grid, at = read_block(rows, 1, "row")
        return "grid", grid, at
    if head == ["steps"]:
        steps, at = read_steps(rows)
        return "steps", steps, at
    value = value_in(head)
    if value is None:
        raise InvalidText(1)
    return head[0], value, 1


def value_in(words):
    """The value of a sort with one line alone; None if none is written so."""
    if words[0] == "place" and len(words) == 2:
        return BEYOND if words[1] == BEYOND else number_in(words[1])
    if words[0] == "poly":
        return poly_in(words[1:])
    numbers = numbers_in(words[1:])
    if numbers is None:
        return None
    if words[0] == "form" and is_form(numbers) and numbers == told_form(numbers):
        return numbers
    return numbers if words[0] == "numbers" and 1 <= len(numbers) <= MOST_NUMBERS else None


def poly_in(words):
    """The told polynomial that the words are; None if they are none."""
    numbers = numbers_in(words)
    if numbers is None or not is_poly(numbers) or (numbers and numbers[-1].sign == 0):
        return None
    return numbers


def read_fraction(rows):
    """The Fraction of the first two lines."""
    top = poly_in(rows[0][1:])
    if top is None:
        raise InvalidText(1)
    bottom = poly_in(rows[1][1:]) if len(rows) > 1 and rows[1][0] == "bottom" else []
    if not bottom:
        raise InvalidText(2)
    fraction = Fraction(top, bottom)
    if fraction.upper() != top or fraction.lower() != bottom:
        raise InvalidText(2)
    return fraction


def read_block(rows, at, word):
    """A tuple of the grid whose lines begin with the word, from the position on, and the position behind it."""
    grid = []
    while at < len(rows) and len(grid) < MOST_WIDE and is_row(rows[at], word, grid):
        grid.append(numbers_in(rows[at][1:]))
        at = at + 1
    if not grid:
        raise InvalidText(at + 1)
    return grid, at


def is_row(words, word, grid):
    """Whether the words are the word and a row that may stand behind those of the grid."""
    numbers = numbers_in(words[1:])
    if words[0] != word or numbers is None or not 1 <= len(numbers) <= MOST_WIDE:
        return False
    return not grid or len(numbers) == len(grid[0])


def read_steps(rows):
    """A tuple of the steps behind the first line, and of the position behind them."""
    steps, at = [], 1
    while len(steps) < MOST_STEPS and (not steps or at < len(rows)):
        first, second = read_counts(rows, at, len(steps) + MOST_TOLD)
        top, at = read_block(rows, at + 1, "over")
        bottom, at = read_block(rows, at, "under")
        steps.append((first, second, top, bottom))
    return steps, at


def read_counts(rows, at, many):
    """A tuple of both COUNTS, below many, of the step at the position."""
    words = rows[at] if at < len(rows) else [""]
    counts = [count_in(word) for word in words[1:]]
    if words[0] != "step" or len(counts) != 2 or None in counts or max(counts) >= many:
        raise InvalidText(at + 1)
    return counts[0], counts[1]
