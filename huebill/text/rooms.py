"""Texts of rooms."""

from huebill.errors import Broken, InvalidName, InvalidOperation, ParseError, TooMany
from huebill.room.room import check_room, room_with
from huebill.text.formats import is_conflict_row, is_things_row, read_integer, rows_of, web_of_rows, web_text


def write_room(room):
    """The text of a room."""
    check_room(room)
    lines = [" ".join(["hold", label, *_hold_words(hold)]) for label, hold in room.holds.items()]
    return "\n".join([web_text(room.web, room.things), *lines])


def read_room(text):
    """The room that has this text; nothing can be taken back in it."""
    rows = rows_of(text, _is_room_row)
    web = web_of_rows(rows, [row for row in rows[1:] if is_conflict_row(row)])
    order = tuple(rows[0][1:])
    holds = [(row[1], hold_of(row[2:])) for row in rows[1:] if _is_hold_row(row)]
    try:
        room = room_with(web, order, holds)
    except (InvalidName, InvalidOperation, TooMany, Broken):
        raise ParseError(len(rows)) from None
    if write_room(room) != text:
        raise ParseError(len(rows))
    return room


def hold_of(words):
    """What words tell in the place of a hold, which need be none; or None if they have not the form of one."""
    if len(words) > 0 and words[0] == "loose":
        return "loose", tuple(words[1:])
    if len(words) == 1:
        return words[0]
    if len(words) != 2 or words[0] != "colours" or read_integer(words[1]) is None:
        return None
    return "colours", read_integer(words[1])


def _hold_words(hold):
    """The words of a hold."""
    if isinstance(hold, str):
        return (hold,)
    word, told = hold
    return (word, str(told)) if word == "colours" else (word, *told)


def _is_room_row(at, words):
    """Whether a line has its form in the text of a room."""
    if at == 0:
        return is_things_row(words)
    return is_conflict_row(words) or _is_hold_row(words)


def _is_hold_row(words):
    """Whether a line tells a hold."""
    return words[0] == "hold" and len(words) > 1
