"""What test files of desks share: all that a desk holds, as it can be seen from outside."""

from innerfractions.desk import Desk
from innerfractions.errors import LetterError, LimitError, MissingError, StateError

ERRORS = (LetterError, MissingError, StateError, LimitError)
# A cube and a square, a fraction that is not made of the square, a curve, a number, a move.
KNOWN = [
    "letter t", "times two t t", "times three two t", "fraction wave 1,0,1 0,1", "curve knot two three",
    "fraction num 2/3 1", "fraction led 1,2 3,4",
]


def desk_with(*lines):
    """A desk that has done the known deeds and these."""
    desk = Desk()
    desk.do_all(*KNOWN, *lines)
    return desk


def picture(desk):
    """All that the desk holds; what can be done again is seen at a copy."""
    ahead, other = [], desk.copy()
    while True:
        try:
            ahead.append(other.do("redo"))
        except StateError:
            break
    things = {name: desk[name] for name in desk.names}
    labels = {}
    for label in desk.labels:
        labels[label] = desk.do("claimed " + label), desk.do("state " + label), desk.claim_of(label), desk.fits(label)
    told = desk.do("states"), desk.do("names")
    return repr(things), desk.names, repr(labels), desk.labels, desk.lines(), len(desk), *told, ahead


def failure(function, *given):
    """The error that the call raises."""
    try:
        function(*given)
    except ERRORS as error:
        return error
    raise AssertionError("no error")


def shape(error):
    """The class of an error and its attributes."""
    return error.__class__, {name: value for name, value in vars(error).items() if not name.startswith("__")}
