"""Shares: whole numbers from 1 on, told by their sum and a dict."""

from math import gcd

from huebill.base.numbers import is_positive


def are_shares(value, keys):
    """Whether the value is a pair of a sum and a dict from some of the keys to integers of at least 1 with this sum."""
    if not isinstance(value, tuple) or len(value) != 2:
        return False
    unit, shares = value
    if not is_positive(unit) or not isinstance(shares, dict):
        return False
    if not all([key in keys and is_positive(shares[key]) for key in shares]):
        return False
    return sum(list(shares.values())) == unit


def share_pair(keys, numbers):
    """The shares of the keys, whose numbers are at least 0 and not all 0, without a common divisor."""
    found = positive_parts(keys, numbers)
    return sum(list(found.values())), found


def positive_parts(keys, numbers):
    """The dict from the keys whose numbers are above 0 to these, without a common divisor."""
    shared = 0
    for number in numbers:
        shared = gcd(shared, number)
    return {key: number // shared for key, number in zip(keys, numbers) if number > 0}
