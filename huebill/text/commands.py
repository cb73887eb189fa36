"""The commands of the shell by which its room changes."""

from huebill.errors import ParseError
from huebill.text.formats import read_integer
from huebill.text.rooms import hold_of


def _come(room, names):
    name, *group = names
    room.come(name, beside=tuple(group))


def _go(room, names):
    room.go(*names)


def _tie(room, names):
    one, other = names
    room.tie(one, other)


def _untie(room, names):
    one, other = names
    room.untie(one, other)


def _turn(room, names):
    room.turn()


def _hold(room, names):
    hold = hold_of(names[1:])
    if hold is None:
        raise ParseError(0)
    room.hold(names[0], hold)


def _release(room, names):
    room.release(names[0])


def _undo(room, names):
    room.undo(many=_many_of(names))


def _redo(room, names):
    room.redo(many=_many_of(names))


# For each command the least and the greatest number of words behind it, None if there is none, and what does it.
_COMMANDS = {
    "come": (1, None, _come),
    "go": (1, 8, _go),
    "tie": (2, 2, _tie),
    "untie": (2, 2, _untie),
    "turn": (0, 0, _turn),
    "hold": (2, None, _hold),
    "release": (1, 1, _release),
    "undo": (0, 1, _undo),
    "redo": (0, 1, _redo),
}


def is_command(word):
    """Whether a word is that of a command."""
    return word in _COMMANDS


def do_command(room, word, names):
    """Does the command of a word and the words behind it; ParseError(0) if they have not its form."""
    least, most, call = _COMMANDS[word]
    check_number(names, least, most)
    call(room, names)


def check_number(names, least, most):
    """Refuses too few words, and too many; None stands for any number."""
    if len(names) < least or (most is not None and len(names) > most):
        raise ParseError(0)


def _many_of(names):
    """How many calls are told, 1 if nothing is told."""
    if len(names) == 0:
        return 1
    many = read_integer(names[0])
    if many is None or many < 0:
        raise ParseError(0)
    return many
