"""All errors of the program."""


class LetterError(ValueError):
    """A value is not what it should be."""


class InvalidCurve(LetterError):
    """The value is no Curve."""

    def __init__(self, value):
        self.value = value


class InvalidForm(LetterError):
    """The value is no form."""

    def __init__(self, value):
        self.value = value


class InvalidFraction(LetterError):
    """The value is no Fraction."""

    def __init__(self, value):
        self.value = value


class InvalidFractions(LetterError):
    """The value is no list of full Fractions, or a wrong number of them."""

    def __init__(self, value):
        self.value = value


class InvalidMany(LetterError):
    """The value is no COUNT within the bounds."""

    def __init__(self, value):
        self.value = value


class InvalidMove(LetterError):
    """The value is no Fraction of the degree 1."""

    def __init__(self, value):
        self.value = value


class InvalidMoves(LetterError):
    """The value is no list of moves, or a wrong number of them."""

    def __init__(self, value):
        self.value = value


class InvalidNumber(LetterError):
    """The value is no NUMBER, or a bottom that is 0."""

    def __init__(self, value):
        self.value = value


class InvalidPlace(LetterError):
    """The value is neither a NUMBER nor the text beyond."""

    def __init__(self, value):
        self.value = value


class InvalidPoly(LetterError):
    """The value is no list of 0 to 25 NUMBERS."""

    def __init__(self, value):
        self.value = value


class DividedByZero(LetterError):
    """The divisor is 0."""


class InvalidClaim(LetterError):
    """The value is no claim."""

    def __init__(self, value):
        self.value = value


class InvalidCommand(LetterError):
    """The value is no command."""

    def __init__(self, value):
        self.value = value


class InvalidGoals(LetterError):
    """The value is no list of as many NUMBERS as there are rows."""

    def __init__(self, value):
        self.value = value


class InvalidLines(LetterError):
    """The line at this position is no deed; None: no list."""

    def __init__(self, position):
        self.position = position


class InvalidPaper(LetterError):
    """The value is no paper."""

    def __init__(self, value):
        self.value = value


class InvalidPlaces(LetterError):
    """The value is no list of three unlike places."""

    def __init__(self, value):
        self.value = value


class InvalidPoint(LetterError):
    """The value is no tuple of two NUMBERS."""

    def __init__(self, value):
        self.value = value


class InvalidPower(LetterError):
    """The value is no INTEGER within the bounds."""

    def __init__(self, value):
        self.value = value


class InvalidPrime(LetterError):
    """The value is no odd prime below 60."""

    def __init__(self, value):
        self.value = value


class InvalidRows(LetterError):
    """The value is no rows, or rows of another width than told."""

    def __init__(self, value):
        self.value = value


class InvalidSort(LetterError):
    """The value is no word of a sort."""

    def __init__(self, value):
        self.value = value


class InvalidText(LetterError):
    """The number of the wrong line; 0: no string."""

    def __init__(self, line):
        self.line = line


class InvalidValue(LetterError):
    """The value is not a value of this sort."""

    def __init__(self, value):
        self.value = value


class MissingError(LookupError):
    """Nothing is kept under a name or a label."""


class UnknownLabel(MissingError):
    """No claim is noted under this label."""

    def __init__(self, value):
        self.value = value


class UnknownName(MissingError):
    """Nothing of the wanted kind is kept under this name."""

    def __init__(self, value):
        self.value = value


class StateError(RuntimeError):
    """The values are of their kinds, but do not go together so."""


class Beyond(StateError):
    """The fraction is beyond at this number."""


class CommandFailed(StateError):
    """The command at this position failed; its error is the cause."""

    def __init__(self, position):
        self.position = position


class LabelTaken(StateError):
    """A claim is noted under this label."""

    def __init__(self, label):
        self.label = label


class NameTaken(StateError):
    """Something is kept under this name."""

    def __init__(self, name):
        self.name = name


class NotDivided(StateError):
    """The one form does not divide the other one."""


class NotFinite(StateError):
    """The moves grow to more than a finite group has."""


class NotFull(StateError):
    """A fraction is a number."""


class NotGroup(StateError):
    """The moves are no group."""


class NotInner(StateError):
    """The one fraction is not inner to the other one."""


class NotServed(StateError):
    """The prime does not serve the polynomial."""


class NothingToRedo(StateError):
    """No deed was taken back last."""


class NothingToUndo(StateError):
    """There is no deed to take back."""


class NoughtBottom(StateError):
    """The bottom of a fraction is nought."""


class NoughtPoly(StateError):
    """The polynomial is nought."""


class NumbersAlone(StateError):
    """Both fractions of a curve are numbers."""


class LimitError(ArithmeticError):
    """Something would be greater than the program goes."""


class TooMany(LimitError):
    """There would be more of what than the limit."""

    def __init__(self, what, limit):
        self.what = what
        self.limit = limit
