"""Desks that keep fractions and curves under names, and claims of them under labels."""

from innerfractions.acts import acted, acted_all
from innerfractions.claims import contrary, copied
from innerfractions.commands import is_deed, is_name
from innerfractions.errors import InvalidLines, InvalidPaper, UnknownLabel, UnknownName
from innerfractions.pages import Held, Page, claim_in, is_shown


class Desk:
    """Things, claims, deeds and papers, changed by commands."""

    def __init__(self):
        # What is held is never changed, only replaced: so it can be put back as a whole.
        self._held = Held(Page({}, {}, {}), [], [], {})

    @property
    def names(self):
        """The sorted list of the names under which something is kept."""
        return sorted(self._held.page.things)

    @property
    def labels(self):
        """The sorted list of the labels under which a claim is noted."""
        return sorted(self._held.page.notes)

    def __len__(self):
        return len(self._held.done)

    def __contains__(self, x):
        return is_name(x) and x in self._held.page.things

    def __getitem__(self, at):
        if not is_name(at) or at not in self._held.page.things:
            raise UnknownName(at)
        return self._held.page.things[at]

    def __iter__(self):
        raise TypeError("a desk is not iterated over")

    def __call__(self, command):
        return self.do(command)

    def do(self, command):
        """Does the command, and tells its answer."""
        self._held, answer = acted(self._held, command)
        return answer

    def do_all(self, *commands):
        """Does all commands, or none if one fails, and tells the list of their answers."""
        self._held, answers = acted_all(self._held, commands)
        return answers

    def attempt(self, *commands):
        """The list of the answers of all commands, none of which has an effect."""
        _, answers = acted_all(self._held, commands)
        return answers

    def claim_of(self, label):
        """The claim noted under the label, with what is kept now; None while its state is gone."""
        return claim_now(self._held.page, label)

    def attach(self, label, paper):
        """Keeps a paper of the label's claim, or of its contrary, in the place of one kept before."""
        held = self._held
        claim = claim_now(held.page, label)
        if claim is None:
            raise InvalidPaper(paper)
        is_for = is_shown(claim, paper)
        if not is_for and not is_shown(contrary(claim), paper):
            raise InvalidPaper(paper)
        papers = dict(held.papers)
        papers[label] = (held.page.notes[label].spoken, is_for, copied(paper))
        self._held = Held(held.page, held.done, held.ahead, papers)

    def fits(self, label):
        """Whether the paper kept with the label is still one of what it was kept for."""
        held = self._held
        claim = claim_now(held.page, label)
        if claim is None or label not in held.papers:
            return False
        spoken, is_for, paper = held.papers[label]
        if spoken != held.page.notes[label].spoken:
            return False
        return is_shown(claim if is_for else contrary(claim), paper)

    def lines(self):
        """The list of the lines of the deeds that are not taken back."""
        return [line for line, _ in self._held.done]

    def copy(self):
        """A desk with all that this one holds, that goes on by itself."""
        desk = Desk()
        desk._held = self._held
        return desk

    @classmethod
    def again(cls, lines):
        """A desk that has done these deeds."""
        need_lines(lines)
        desk = cls()
        desk.do_all(*lines)
        return desk


class Trial:
    """A block with a desk, behind which all of the desk is as it was ahead of it."""

    def __init__(self, desk):
        self._desk = desk
        self._kept = None

    def __enter__(self):
        self._kept = self._desk._held
        return self._desk

    def __exit__(self, kind, value, trace):
        self._desk._held = self._kept


def claim_now(page, label):
    """The claim noted under the label; None while its state is gone: UnknownLabel if there is none."""
    if not is_name(label) or label not in page.notes:
        raise UnknownLabel(label)
    return None if page.states[label] == "gone" else claim_in(page.things, page.notes[label])


def need_lines(value):
    """InvalidLines unless the value is a list of deeds."""
    if not isinstance(value, (list, tuple)):
        raise InvalidLines(None)
    for at, line in enumerate(value):
        if not is_deed(line):
            raise InvalidLines(at)


def tried(desk, action):
    """What the function action returns for the desk, called within a block behind which the desk is as before."""
    with Trial(desk) as held:
        return action(held)
