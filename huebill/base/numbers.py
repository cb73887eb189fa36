"""Names, integers and fractions."""

from math import gcd

from huebill.errors import InvalidNumber

MAX_DIGITS = 60
MAX_NAME = 8
MAX_THINGS = 8

_LETTERS = "abcdefghijklmnopqrstuvwxyz"
# The least integer of more than MAX_DIGITS digits.
_TOO_LONG = 10 ** 60
# The least integer of more than _CHUNK_DIGITS digits.
_CHUNK = 10 ** 64
_CHUNK_DIGITS = 64


def is_whole(value):
    """Whether the value is an integer, of any size."""
    return isinstance(value, int) and not isinstance(value, bool)


def is_integer(value):
    """Whether the value is an integer of at most MAX_DIGITS digits."""
    return is_whole(value) and abs(value) < _TOO_LONG


def is_positive(value):
    """Whether the value is an integer of at least 1, of any size."""
    return is_whole(value) and value >= 1


def is_name(value):
    """Whether the value is a string of one to MAX_NAME letters a to z."""
    if not isinstance(value, str) or not 1 <= len(value) <= MAX_NAME:
        return False
    return all([letter in _LETTERS for letter in value])


def is_fraction(value):
    """Whether the value is a pair of integers without a common divisor but 1, the second one at least 1."""
    if not isinstance(value, tuple) or len(value) != 2:
        return False
    if not is_integer(value[0]) or not is_integer(value[1]):
        return False
    return value[1] >= 1 and gcd(value[0], value[1]) == 1


def lowest(numerator, denominator):
    """The fraction of two integers that are passed to the package."""
    if not is_integer(numerator):
        raise InvalidNumber(numerator)
    if not is_integer(denominator) or denominator == 0:
        raise InvalidNumber(denominator)
    return reduced(numerator, denominator)


def reduced(numerator, denominator):
    """The fraction of two integers of any size, the second one not 0."""
    shared = gcd(numerator, denominator)
    if denominator < 0:
        shared = -shared
    return (numerator // shared, denominator // shared)


def integer_text(number):
    """An integer in decimal, of any size: the str of Python refuses those of more than 4300 digits."""
    chunks = []
    rest = abs(number)
    while rest >= _CHUNK:
        chunks.append(str(rest % _CHUNK).zfill(_CHUNK_DIGITS))
        rest = rest // _CHUNK
    chunks.append(str(rest))
    digits = "".join(chunks[::-1])
    return f"-{digits}" if number < 0 else digits


def fraction_text(numerator, denominator):
    """A quotient like `1/2`, or like `-3` if it is whole."""
    over, under = reduced(numerator, denominator)
    if under == 1:
        return integer_text(over)
    return f"{integer_text(over)}/{integer_text(under)}"
