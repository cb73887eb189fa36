"""Texts of webs, charges and values."""

from huebill.base.numbers import MAX_DIGITS, is_integer, is_name
from huebill.bills.charges import Charge
from huebill.errors import InvalidCharge, InvalidNumber, InvalidOperation, InvalidWeb, ParseError
from huebill.webs.webs import Web, check_web

# How many tuples, dicts and charges stand at most one in another.
_MAX_DEPTH = 9
# How many words a charge in the text of a value has at most behind its first one: unit, eight pairs and the end.
_CHARGE_WORDS = 18
_DIGITS = "0123456789"


def write_web(web):
    """The text of a web."""
    check_web(web)
    return web_text(web, web.things)


def write_charge(charge):
    """The text of a charge."""
    if not isinstance(charge, Charge):
        raise InvalidCharge("no charge")
    _check_digits(charge)
    lines = [f"pay {thing} {paid}" for thing, paid in charge.pays.items()]
    return "\n".join([f"unit {charge.unit}", *lines])


def write_value(value):
    """The text of a value."""
    return _value_text(value, 0)


def read_web(text):
    """The web that has this text."""
    rows = rows_of(text, _is_web_row)
    web = web_of_rows(rows, rows[1:])
    if write_web(web) != text:
        raise ParseError(len(rows))
    return web


def read_charge(text):
    """The charge that has this text."""
    rows = rows_of(text, _is_charge_row)
    charge = _charge_of(rows[0][1], [row[1:] for row in rows[1:]], len(rows))
    if write_charge(charge) != text:
        raise ParseError(len(rows))
    return charge


def read_value(text):
    """The value that has this text."""
    check_text(text)
    line, *more = text.split("\n")
    value, _ = _value_at(line.split(" "), 0, 0, False)
    if write_value(value) != line:
        raise ParseError(0)
    if len(more) > 0:
        raise ParseError(1)
    return value


def web_text(web, order):
    """The text of a web, with its things in this order."""
    lines = [f"conflict {one} {other}" for one, other in web.conflicts]
    return "\n".join([f"things {' '.join(order)}", *lines])


def web_of_rows(rows, conflict_rows):
    """The web whose things stand in the first row, and whose conflicts in some of the rows."""
    things = tuple(rows[0][1:])
    conflicts = tuple([(one, other) for _, one, other in conflict_rows])
    try:
        return Web(things, conflicts)
    except InvalidWeb:
        raise ParseError(len(rows)) from None


def rows_of(text, has_form):
    """The words of each line; refuses the first line that has not the form of its place, which a call tells."""
    check_text(text)
    rows = [line.split(" ") for line in text.split("\n")]
    for at, words in enumerate(rows):
        if "" in words or not has_form(at, words):
            raise ParseError(at)
    return rows


def is_things_row(words):
    """Whether a line tells things."""
    return words[0] == "things"


def is_conflict_row(words):
    """Whether a line tells a conflict."""
    return words[0] == "conflict" and len(words) == 3


def read_integer(word):
    """The integer that is written so, or None if there is none of at most MAX_DIGITS digits."""
    digits = word[1:] if word.startswith("-") else word
    if not 1 <= len(digits) <= MAX_DIGITS or not all([sign in _DIGITS for sign in digits]):
        return None
    number = int(word)
    # Zeros ahead, and a sign before 0, are needless.
    return number if str(number) == word else None


def check_text(text):
    """Refuses what is no string."""
    if not isinstance(text, str):
        raise InvalidOperation("no text")


def _is_web_row(at, words):
    """Whether a line has its form in the text of a web."""
    return is_things_row(words) if at == 0 else is_conflict_row(words)


def _is_charge_row(at, words):
    """Whether a line has its form in the text of a charge."""
    if at == 0:
        return words[0] == "unit" and len(words) == 2 and read_integer(words[1]) is not None
    return words[0] == "pay" and len(words) == 3 and read_integer(words[2]) is not None


def _check_digits(charge):
    """Refuses a charge with an integer that is too long for a text."""
    if not all([is_integer(number) for number in [charge.unit, *list(charge.pays.values())]]):
        raise InvalidOperation("the charge has an integer that is too long for a text")


def _charge_of(unit, pairs, wrong):
    """The charge of a word for its unit and pairs of a thing and a word for an integer; or ParseError(wrong)."""
    pays = {thing: read_integer(word) for thing, word in pairs}
    whole = read_integer(unit)
    try:
        return Charge(pays, unit=whole)
    except (InvalidCharge, InvalidNumber):
        raise ParseError(wrong) from None


def _value_text(value, depth):
    """The text of a value within so many tuples and dicts."""
    if value is None:
        return "none"
    if is_integer(value):
        return str(value)
    if _is_short(value):
        return f"={value}"
    if depth == _MAX_DEPTH:
        raise InvalidOperation("too many tuples, dicts and charges one in another")
    if isinstance(value, tuple):
        return " ".join(["(", *[_value_text(part, depth + 1) for part in value], ")"])
    if isinstance(value, dict):
        pairs = sorted([(_value_text(key, depth + 1), _value_text(value[key], depth + 1)) for key in value])
        return " ".join(["{", *[f"{key} {part}" for key, part in pairs], "}"])
    if isinstance(value, Charge):
        _check_digits(value)
        return " ".join(["[", str(value.unit), *[f"={thing} {paid}" for thing, paid in value.pays.items()], "]"])
    raise InvalidOperation("no value with a text")


def _is_short(value):
    """Whether the value is a string of at most eight letters a to z, perhaps of none."""
    return value == "" or is_name(value)


def _value_at(words, at, depth, is_key):
    """The value whose text begins at a word, within so many tuples and dicts, and the place behind it.

    A text that is not written just so, or goes on behind the value, or lacks an end, is read here, too: it is not the
    text of what is read.
    """
    if at >= len(words):
        raise ParseError(0)
    word = words[at]
    if word == "none":
        return None, at + 1
    if word.startswith("=") and _is_short(word[1:]):
        return word[1:], at + 1
    if read_integer(word) is not None:
        return read_integer(word), at + 1
    # What stands in a key can be a tuple, but neither a dict nor a charge.
    if depth == _MAX_DEPTH or word not in ("(", "{", "[") or (is_key and word != "("):
        raise ParseError(0)
    if word == "(":
        return _tuple_at(words, at + 1, depth + 1, is_key)
    if word == "{":
        return _dict_at(words, at + 1, depth + 1)
    return _charge_at(words, at + 1)


def _tuple_at(words, at, depth, is_key):
    """The tuple whose first part begins at a word, and the place behind it."""
    parts = []
    while at < len(words) and words[at] != ")":
        part, at = _value_at(words, at, depth, is_key)
        parts.append(part)
    return tuple(parts), at + 1


def _dict_at(words, at, depth):
    """The dict whose first key begins at a word, and the place behind it."""
    found = {}
    while at < len(words) and words[at] != "}":
        key, at = _value_at(words, at, depth, True)
        part, at = _value_at(words, at, depth, False)
        found[key] = part
    return found, at + 1


def _charge_at(words, at):
    """The charge whose unit is told by a word, and the place behind it."""
    told = words[at:at + _CHARGE_WORDS]
    if "]" not in told:
        raise ParseError(0)
    end = told.index("]")
    pairs = [(name[1:], word) for name, word in zip(told[1:end:2], told[2:end:2])]
    return _charge_of(told[0], pairs, 0), at + end + 1
