"""What a desk holds: things under names, claims under labels, what was done. None of it ever changes.

Each deed makes a new Page, so that what was ahead of it is still there to be taken up again.
"""

from innerfractions.claims import is_claim, is_paper_of, is_true
from innerfractions.errors import TooMany
from innerfractions.fractions import Fraction

# The kinds of words that are names of something kept.
NAMING = ("ONE", "CURVE", "NAME", "OTHER", "INNER")


class Page:
    """Things by their names, and by their labels the notes of claims and their states."""

    def __init__(self, things, notes, states):
        self.things = things
        self.notes = notes
        self.states = states


class Note:
    """A claim as it is noted: the kinds of its words, what they stand for, and the words themselves."""

    def __init__(self, kinds, worths, spoken):
        self.kinds = kinds
        self.worths = worths
        self.spoken = spoken


class Held:
    """All that a desk holds: its Page, the deeds done, those taken back, and the papers.

    done and ahead are lists of the tuples (line, Page) with the Page that comes if the deed is
    taken back, or is done again; the last one comes first. papers: a dict of tuples by labels.
    """

    def __init__(self, page, done, ahead, papers):
        self.page = page
        self.done = done
        self.ahead = ahead
        self.papers = papers


def kind_of(thing):
    """The word for things of this kind."""
    return "ONE" if isinstance(thing, Fraction) else "CURVE"


def first_unknown(things, kinds, worths):
    """The first name under which nothing of the wanted kind is kept; None if there is none."""
    wanted = None
    for kind, name in zip(kinds, worths):
        if kind in NAMING:
            if name not in things:
                return name
            found = kind_of(things[name])
            # OTHER and INNER are of the kind of the name ahead of them.
            if kind in ("ONE", "CURVE"):
                wanted = kind
            elif kind == "NAME":
                wanted = found
            if found != wanted:
                return name
    return None


def given_of(things, kinds, worths):
    """What the words stand for, things in the place of their names."""
    return [things[worth] if kind in NAMING else worth for kind, worth in zip(kinds, worths)]


def tuple_of(things, note):
    """The tuple of a note all of whose names are known, which need not be a claim."""
    given = given_of(things, note.kinds, note.worths)
    word, given = given[0], given[1:]
    if word in ("made", "kept", "one", "notone"):
        return word, given[1:], given[0]
    if word in ("on", "off"):
        return word, given[0], (given[1], given[2])
    return tuple([word] + given)


def claim_in(things, note):
    """The claim of a note with the things that are kept now; None if it is none."""
    if first_unknown(things, note.kinds, note.worths) is not None:
        return None
    claim = tuple_of(things, note)
    return claim if is_claim(claim) else None


def state_of(things, note):
    """The state of a note with the things that are kept now."""
    claim = claim_in(things, note)
    return "gone" if claim is None else state_in(claim)


def state_in(claim):
    """The state of a claim."""
    try:
        return "true" if is_true(claim) else "false"
    except TooMany:
        return "gone"


def is_shown(claim, paper):
    """Whether any value is a paper of the claim, as far as no limit stops it."""
    try:
        return is_paper_of(claim, paper)
    except TooMany:
        return False


def page_with(page, things, changed):
    """The page with other things, of which just the one of the changed name is another one."""
    states = {label: page.states[label] for label in page.notes if changed not in page.notes[label].worths}
    for label in page.notes:
        if label not in states:
            states[label] = state_of(things, page.notes[label])
    return Page(things, page.notes, states)
