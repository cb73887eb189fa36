"""The shell: a room that is led by lines of text."""

from huebill.errors import Broken, InvalidCharge, InvalidGroup, InvalidName, InvalidOperation, InvalidOrder
from huebill.errors import NothingToUndo, ParseError, Spoiled, TooMany, UnknownName
from huebill.room.room import Room
from huebill.text.commands import do_command, is_command
from huebill.text.questions import answer_question


class Shell:
    """A room with the commands and the questions of lines."""

    def __init__(self, web):
        self._room = Room(web)

    def room(self):
        """A twin of the room."""
        return self._room.twin()

    def __call__(self, line):
        return self.answer(line)

    def answer(self, line):
        """Does the command of a line, or answers its question: returns a text."""
        try:
            return _answered(self._room, line)
        except ParseError:
            return "what"
        except UnknownName as unknown:
            return f"unknown {unknown.name}"
        except InvalidName:
            return "name"
        except InvalidGroup:
            return "group"
        except InvalidCharge:
            return "charge"
        except InvalidOrder:
            return "order"
        except InvalidOperation:
            return "operation"
        except TooMany as full:
            return f"many {full.limit}"
        except Broken as broken:
            return f"broken {broken.label}"
        except Spoiled as spoiled:
            return f"spoiled {' '.join(spoiled.group)}"
        except NothingToUndo as short:
            return f"undo {short.many}"


def _answered(room, line):
    """The answer to a line; ParseError(0) if it is no line of the shell, or the error of the call."""
    if not isinstance(line, str) or "\n" in line:
        raise ParseError(0)
    words = line.split(" ")
    if "" in words:
        raise ParseError(0)
    word = words[0]
    names = tuple(words[1:])
    if is_command(word):
        do_command(room, word, names)
        return "done"
    return answer_question(room, word, names)
