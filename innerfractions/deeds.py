"""What deeds make of the page of a desk: each makes a new one."""

from innerfractions.claims import is_claim
from innerfractions.classes import class_of
from innerfractions.curves import Curve
from innerfractions.errors import InvalidClaim, NotInner, TooMany
from innerfractions.fractions import Fraction, letter, put, slope
from innerfractions.lattices import joined, met
from innerfractions.moves import power, undone
from innerfractions.ones import the_one
from innerfractions.outer import outer
from innerfractions.pages import Note, Page, given_of, page_with, state_in, tuple_of

MOST_NAMES = 12
MOST_LABELS = 12


def page_after(page, command):
    """The page behind a deed all of whose names are as it wants them."""
    if command.word == "claim":
        return page_noted(page, command)
    name = command.worths[0]
    if command.word == "forget":
        left = [label for label in page.notes if label != name]
        notes = {label: page.notes[label] for label in left}
        return Page(page.things, notes, {label: page.states[label] for label in left})
    things = dict(page.things)
    if command.word == "drop":
        del things[name]
    elif command.word in ("top", "bottom"):
        things[name] = altered(command.word, things[name], command.worths[1])
    else:
        things[name] = made_by(command.word, given_of(page.things, command.kinds, command.worths)[1:])
        if len(things) > MOST_NAMES:
            raise TooMany("names", MOST_NAMES)
    return page_with(page, things, name)


def page_noted(page, command):
    """The page with one more claim."""
    label = command.worths[0]
    note = Note(command.kinds[1:], command.worths[1:], command.spoken[2:])
    claim = tuple_of(page.things, note)
    state = state_in(claim) if is_claim(claim) else "gone"
    if state == "gone":
        raise InvalidClaim(claim)
    if len(page.notes) == MOST_LABELS:
        raise TooMany("labels", MOST_LABELS)
    notes, states = dict(page.notes), dict(page.states)
    notes[label], states[label] = note, state
    return Page(page.things, notes, states)


def altered(word, fraction, poly):
    """The fraction with another top, or with another bottom."""
    return Fraction(poly, fraction.lower()) if word == "top" else Fraction(fraction.upper(), poly)


def made_by(word, given):
    """What is kept under a new name: a fraction or a curve, of what stands behind the name."""
    if word == "letter":
        return letter()
    if word == "oneof":
        return the_one(given)
    first, last = given[0], given[-1]
    if word in ("fraction", "sum", "less", "times", "over", "put"):
        return reckoned(word, first, last)
    if word == "slope":
        return slope(first)
    if word == "class":
        return class_of(first)
    if word == "undone":
        return undone(first)
    if word == "power":
        return power(first, last)
    if word == "met":
        return met(first, given[1], last)
    if word == "joined":
        return joined(first, last)
    if word == "outer":
        return outer_made(first, last)
    return drawn(word, first, last)


def reckoned(word, first, last):
    """The fraction that a deed of reckoning makes of two fractions, or of two polynomials."""
    if word == "fraction":
        return Fraction(first, last)
    if word == "sum":
        return first + last
    if word == "less":
        return first - last
    if word == "times":
        return first * last
    return first.over(last) if word == "over" else put(first, last)


def outer_made(fraction, inner):
    """The outer fraction: NotInner if there is none."""
    made = outer(fraction, inner)
    if made is None:
        raise NotInner()
    return made


def drawn(word, first, last):
    """The curve of two fractions, or what a curve tells."""
    if word == "curve":
        return Curve(first, last)
    if word == "plain":
        return first.plain()
    return first.first() if word == "first" else first.second()
