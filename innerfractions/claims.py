"""Claims, their contraries, and the papers that show that they are true."""

from innerfractions.curves import Curve
from innerfractions.doubles import is_other_place, is_same_move, other_place, same_curve
from innerfractions.equations import is_on, is_point, places_at
from innerfractions.errors import InvalidClaim
from innerfractions.forms import are_like, is_form
from innerfractions.fractions import Fraction, put
from innerfractions.halves import all_inner, is_whole_fraction
from innerfractions.kept import is_kept_apart, kept_apart
from innerfractions.made import is_made, is_made_steps, made_steps
from innerfractions.ones import is_the_one, lone_place
from innerfractions.outer import is_inner, is_parting_place, outer, parting_place
from innerfractions.places import is_place
from innerfractions.refusals import MOST_TOLD_DEGREE, are_told_ones, is_told_one
from innerfractions.twins import common_part

# Of each line the word of the claim and that of its contrary.
LINES = (
    ("made", "kept"), ("inner", "apart"), ("one", "notone"), ("whole", "halved"), ("on", "off"), ("same", "unlike"),
)
MOST_INNER_DEGREE = 12
MOST_WHOLE_DEGREE = 6


def words():
    """The list of the tuples of the two words of each line."""
    return list(LINES)


def line_of(word):
    """The tuple of the two words of the line in which the word stands; None if it stands in none."""
    found = [line for line in LINES if word in line]
    return found[0] if found else None


def is_claim(value):
    """Whether any value is a claim."""
    if not isinstance(value, tuple) or not value or not isinstance(value[0], str):
        return False
    line, parts = line_of(value[0]), value[1:]
    if line is None or len(parts) != (1 if line[0] == "whole" else 2):
        return False
    if line[0] == "whole":
        return is_between(parts[0], 2, MOST_WHOLE_DEGREE)
    first, second = parts
    if line[0] == "made":
        return are_told_ones(first) and is_between(second, 0, MOST_TOLD_DEGREE)
    if line[0] == "inner":
        return is_between(first, 1, MOST_INNER_DEGREE) and is_between(second, 1, MOST_INNER_DEGREE)
    if line[0] == "one":
        return are_told_ones(first) and is_told_one(second)
    if line[0] == "on":
        return isinstance(first, Curve) and is_point(second)
    return isinstance(first, Curve) and isinstance(second, Curve)


def is_between(value, least, most):
    """Whether any value is a Fraction of a degree from the least one to the most."""
    return isinstance(value, Fraction) and least <= value.degree <= most


def need_claim(value):
    """InvalidClaim unless the value is a claim."""
    if not is_claim(value):
        raise InvalidClaim(value)


def is_true(claim):
    """Whether the claim is true."""
    need_claim(claim)
    first, _ = line_of(claim[0])
    return holds(first, claim[1], claim[-1]) == (claim[0] == first)


def holds(word, part, last):
    """Whether the first claim of a line is true of its parts, which may be one alone."""
    if word == "made":
        return is_made(part, last)
    if word == "inner":
        return is_inner(part, last)
    if word == "one":
        return is_the_one(part, last)
    if word == "whole":
        return is_whole_fraction(part)
    if word == "on":
        return is_on(part, last)
    return same_curve(part, last) is not None


def contrary(claim):
    """The claim with the other word of its line and the same parts."""
    need_claim(claim)
    first, second = line_of(claim[0])
    word = second if claim[0] == first else first
    return tuple([word] + [copied(part) for part in claim[1:]])


def copied(value):
    """The value, with new lists and tuples within one another."""
    if isinstance(value, list):
        return [copied(part) for part in value]
    return tuple([copied(part) for part in value]) if isinstance(value, tuple) else value


def paper_of(claim):
    """A paper of the claim; None if it is not true, or if its kind has none."""
    need_claim(claim)
    word, part, last = claim[0], claim[1], claim[-1]
    if word == "made":
        return made_steps(part, last)
    if word == "kept":
        return kept_apart(part, last)
    if word == "inner":
        return outer(part, last)
    if word == "apart":
        return parting_place(part, last)
    if word == "one":
        return one_paper(part, last)
    if word == "halved":
        return halved_paper(part)
    if word == "on":
        return places_at(part, last)
    if word == "same":
        return same_curve(part, last)
    return other_place(part, last) if word == "unlike" else None


def one_paper(fractions, one):
    """The outer ones of the one, and a lone place; None if it is not the one."""
    if not is_the_one(fractions, one):
        return None
    return [outer(fraction, one) for fraction in fractions], lone_place(fractions)


def halved_paper(fraction):
    """An outer and an inner Fraction of degrees of 2 or more that make the fraction; None if it is whole."""
    between = [one for one in all_inner(fraction) if 1 < one.degree < fraction.degree]
    return (outer(fraction, between[0]), between[0]) if between else None


def is_paper_of(claim, value):
    """Whether any value is a paper of the claim."""
    need_claim(claim)
    word, part, last = claim[0], claim[1], claim[-1]
    if word == "made":
        return is_made_steps(part, last, value)
    if word == "kept":
        return is_kept_apart(part, last, value)
    if word == "inner":
        return is_outer(value, last, part)
    if word == "apart":
        return is_parting_place(part, last, value)
    if word == "one":
        return is_one_paper(part, last, value)
    if word == "halved":
        return is_halved_paper(part, value)
    if word == "on":
        return is_places_paper(places_at(part, last), value)
    if word == "same":
        return is_same_move(part, last, value)
    return word == "unlike" and is_other_place(part, last, value)


def is_outer(value, inner, fraction):
    """Whether any value is a Fraction that, of the inner one, a full one, is the fraction, full too."""
    if not isinstance(value, Fraction) or value.degree * inner.degree != fraction.degree:
        return False
    return put(value, inner) == fraction


def is_one_paper(fractions, one, value):
    """Whether any value is a tuple of the outer ones and of a place at which all have no more in common."""
    if not isinstance(value, tuple) or len(value) != 2 or not isinstance(value[0], (list, tuple)):
        return False
    outers, place = value
    if len(outers) != len(fractions) or not is_place(place):
        return False
    if not all([is_outer(other, one, fraction) for other, fraction in zip(outers, fractions)]):
        return False
    return len(common_part(fractions, place)) - 1 == one.degree


def is_halved_paper(fraction, value):
    """Whether any value is a tuple of two Fractions of degrees of 2 or more that make the fraction."""
    if not isinstance(value, tuple) or len(value) != 2:
        return False
    first, second = value
    if not is_between(first, 2, MOST_WHOLE_DEGREE) or not is_between(second, 2, MOST_WHOLE_DEGREE):
        return False
    return is_outer(first, second, fraction)


def is_places_paper(places, value):
    """Whether any value is a form like the form of the places, which is None off the curve."""
    return places is not None and is_form(value) and are_like(value, places)
