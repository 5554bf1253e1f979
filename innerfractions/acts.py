"""What commands make of all that a desk holds, and what they answer."""

from innerfractions.answers import states_text
from innerfractions.commands import command_in
from innerfractions.deeds import page_after
from innerfractions.errors import CommandFailed, InvalidCommand, LabelTaken, LetterError, LimitError
from innerfractions.errors import MissingError, NameTaken, NothingToRedo, NothingToUndo, StateError, TooMany
from innerfractions.errors import UnknownLabel, UnknownName
from innerfractions.pages import Held, first_unknown
from innerfractions.questions import answer_of

MOST_DEEDS = 300


def acted(held, line):
    """A tuple of what is held behind a command, and its answer."""
    command = command_in(line)
    if command is None:
        raise InvalidCommand(line)
    need_free(held.page, command)
    need_known(held.page, command)
    if command.word == "undo":
        return taken_back(held)
    if command.word == "redo":
        return done_again(held)
    if not command.is_deed:
        return held, answer_of(held.page, command)
    page = page_after(held.page, command)
    if len(held.done) == MOST_DEEDS:
        raise TooMany("deeds", MOST_DEEDS)
    return Held(page, held.done + [(line, held.page)], [], held.papers), changes(held.page, page)


def need_free(page, command):
    """NameTaken or LabelTaken if the new name or label of the command is taken."""
    for kind, word in zip(command.kinds, command.worths):
        if kind == "NEW" and word in page.things:
            raise NameTaken(word)
        if kind == "NOTED" and word in page.notes:
            raise LabelTaken(word)


def need_known(page, command):
    """UnknownName with the first name under which nothing of the wanted kind is kept; UnknownLabel."""
    name = first_unknown(page.things, command.kinds, command.worths)
    if name is not None:
        raise UnknownName(name)
    for kind, word in zip(command.kinds, command.worths):
        if kind == "LABEL" and word not in page.notes:
            raise UnknownLabel(word)


def changes(before, now):
    """The labels whose state is another one than before, with their states now."""
    changed = [label for label in now.notes if before.states.get(label) != now.states[label]]
    return states_text(now.states, sorted(changed))


def taken_back(held):
    """What is held without the last deed, and its line."""
    if not held.done:
        raise NothingToUndo()
    line, page = held.done[-1]
    return Held(page, held.done[:-1], held.ahead + [(line, held.page)], held.papers), line


def done_again(held):
    """What is held with the last deed that was taken back, and its line."""
    if not held.ahead:
        raise NothingToRedo()
    line, page = held.ahead[-1]
    return Held(page, held.done + [(line, held.page)], held.ahead[:-1], held.papers), line


def acted_all(held, lines):
    """A tuple of what is held behind all commands, and the list of their answers."""
    answers = []
    for at, line in enumerate(lines):
        try:
            held, answer = acted(held, line)
        except (LetterError, MissingError, StateError, LimitError) as e:
            raise CommandFailed(at) from e
        answers.append(answer)
    return held, answers
