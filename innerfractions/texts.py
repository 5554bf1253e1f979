"""Written forms of values: strings of lines, one for each value."""

from innerfractions.errors import InvalidSort, InvalidValue
from innerfractions.forms import is_form, told_form
from innerfractions.fractions import Fraction
from innerfractions.grids import is_grid
from innerfractions.made import MOST_STEPS, is_step
from innerfractions.places import is_place, told_place
from innerfractions.polys import is_poly, told
from innerfractions.refusals import MOST_TOLD
from innerfractions.solved import are_numbers

SORTS = ("place", "poly", "fraction", "form", "grid", "steps", "numbers")
MOST_NUMBERS = 40


def sorts():
    """The list of the words of the sorts."""
    return list(SORTS)


def need_sort(value):
    """InvalidSort unless the value is the word of a sort."""
    if not isinstance(value, str) or value not in SORTS:
        raise InvalidSort(value)


def are_steps(value):
    """Whether any value is a list of steps that fit as many told ones as there may be."""
    if not isinstance(value, (list, tuple)) or not 1 <= len(value) <= MOST_STEPS:
        return False
    return all([is_step(step, at + MOST_TOLD) for at, step in enumerate(value)])


def is_of_sort(sort, value):
    """Whether any value is one of this sort."""
    need_sort(sort)
    if sort == "place":
        return is_place(value)
    if sort == "poly":
        return is_poly(value)
    if sort == "fraction":
        return isinstance(value, Fraction)
    if sort == "form":
        return is_form(value)
    if sort == "grid":
        return is_grid(value)
    if sort == "steps":
        return are_steps(value)
    return are_numbers(value) and 1 <= len(value) <= MOST_NUMBERS


def written(sort, value):
    """The written form of a value of this sort."""
    if not is_of_sort(sort, value):
        raise InvalidValue(value)
    return "".join([line + "\n" for line in lines_of(sort, value)])


def lines_of(sort, value):
    """The lines of a value of this sort, without their ends."""
    if sort == "place":
        return [f"place {told_place(value)}"]
    if sort == "poly":
        return [line_of("poly", told(value))]
    if sort == "fraction":
        return [line_of("top", value.upper()), line_of("bottom", value.lower())]
    if sort == "form":
        return [line_of("form", told_form(value))]
    if sort == "grid":
        return ["grid"] + [line_of("row", row) for row in value]
    if sort == "steps":
        return ["steps"] + [line for step in value for line in lines_of_step(step)]
    return [line_of("numbers", value)]


def lines_of_step(step):
    """The lines of one step."""
    first, second, top, bottom = step
    over, under = [line_of("over", row) for row in top], [line_of("under", row) for row in bottom]
    return [f"step {first} {second}"] + over + under


def line_of(word, numbers):
    """The line of a word and NUMBERS."""
    return " ".join([word] + [str(number) for number in numbers])
