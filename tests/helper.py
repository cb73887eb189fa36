"""What several tests use: webs, wrong values, and a plain search that shares nothing with the program but `Web`."""

import random
import re
import unittest
from fractions import Fraction
from functools import lru_cache
from itertools import combinations, product
from math import lcm

from huebill.bills.charges import Charge
from huebill.errors import InvalidNumber, UnknownName
from huebill.webs.webs import Web, round_web, row_web

LETTERS = tuple("abcdefgh")
BOND = Web(("a", "b", "c"), (("b", "c"),))
ROW = row_web(tuple("abcd"))
FIVE = round_web(tuple("abcde"), 1)
EIGHT = round_web(tuple("abcdefgh"), 1, 2)
BRIDGE = Web(
    tuple("abcdef"), (("a", "b"), ("a", "c"), ("b", "c"), ("c", "d"), ("d", "e"), ("d", "f"), ("e", "f"))
)
DOT = Web(("x",), ())
EMPTY_EIGHT = Web(LETTERS, ())
RINGS = [round_web(LETTERS[:many], 1) for many in range(3, 9)]
LONG = 10 ** 60
LONGEST = LONG - 1

# Values of every kind that can be passed; none of them is a thing, a group or a charge of the webs that are used.
OTHER_KINDS = [
    None, True, False, 0, 1, -1, 2, LONGEST, LONG, -LONG, 10 ** 99,
    "", "A", "a b", "abcdefghi", "x" * 3000, "a\n", "parts", "kept", "scale", "-", "1",
    [], ["a"], ["a", "b"], [["a"]], {}, {"a": "b"}, {1: 1}, {("a",): None}, {None: {}}, {"kept": True},
    ("A",), ("a", 1), ("b", "a"), ("a", "a"), ("a", None), ("a", ("b",)), (("a",), "b"), ("a", ["b"]), ("zz",), (True,),
    (1, 2, 3), (0,), ("kept",), ("kept", None), ("kept", ()), ("scale", 1), ("scale", (1, {})), ("parts", None, None),
    ("parts",), (1, {}), (True, {("a",): 1}), (((((((((),),),),),),),),), [[[[[[[[[[]]]]]]]]]],
    DOT, Charge({"zz": 1}), InvalidNumber(3), UnknownName("a"), (DOT, DOT), (Charge({"zz": 1}),),
]


def plain_name(value):
    return isinstance(value, str) and re.fullmatch("[a-z]{1,8}", value) is not None


def plain_names(value):
    """Whether the value is a tuple of one to eight different names."""
    if not isinstance(value, tuple) or not all(plain_name(name) for name in value):
        return False
    return 1 <= len(value) <= 8 and len(set(value)) == len(value)


NOT_NAMES = [value for value in OTHER_KINDS if not plain_name(value)]
NOT_THINGS = [value for value in OTHER_KINDS if not plain_names(value)]


class Case(unittest.TestCase):
    """A test that can ask for the very error, and for what it keeps."""

    def refuses(self, error, call, *kept):
        with self.assertRaises(error) as caught:
            call()
        self.assertIs(type(caught.exception), error)
        if kept:
            found = list(vars(caught.exception).values())
            self.assertEqual(len(found), 1)
            self.assertIs(type(found[0]), type(kept[0]))
            self.assertEqual(found[0], kept[0])

    def is_true(self, value, note=None):
        self.assertIs(value, True, note)

    def is_false(self, value, note=None):
        self.assertIs(value, False, note)


def web_of(things, pairs):
    return Web(tuple(things), tuple(pairs))


def all_webs(many):
    """All webs of the first so many letters."""
    pairs = list(combinations(LETTERS[:many], 2))
    for told in product((False, True), repeat=len(pairs)):
        yield web_of(LETTERS[:many], [pair for pair, there in zip(pairs, told) if there])


def small_webs(most=4):
    for many in range(1, most + 1):
        yield from all_webs(many)


def some_webs(many, times, seed):
    """Some webs of the first so many letters, the same at each run."""
    luck = random.Random(seed)
    for _ in range(times):
        pairs = combinations(LETTERS[:many], 2)
        dense = luck.random()
        yield web_of(LETTERS[:many], [pair for pair in pairs if luck.random() < dense])


def big_webs():
    """Rings of three to eight things, their turned webs, EIGHT, EIGHT without a thing, and more of six to eight."""
    yield from RINGS
    for ring in RINGS:
        yield ~ring
    yield from (EIGHT, BRIDGE, EMPTY_EIGHT, ~EMPTY_EIGHT)
    for thing in EIGHT:
        yield EIGHT.without(thing)
    for many in (6, 7, 8):
        yield from some_webs(many, 8, many)


def subsets(things):
    """All tuples of some of the things, by their number."""
    for many in range(len(things) + 1):
        yield from combinations(things, many)


def plain_loose(web, group):
    return not any(pair in web.conflicts for pair in combinations(group, 2))


def plain_knot(web, group):
    return all(pair in web.conflicts for pair in combinations(group, 2))


def all_loose(web):
    """All loose groups but the empty one, by a look at every group."""
    return [group for group in subsets(web.things) if group and plain_loose(web, group)]


def all_knots(web):
    return [group for group in subsets(web.things) if group and plain_knot(web, group)]


def tried_colours(web, group):
    """The colours of a small group, by a look at every way to give its things colours."""
    for many in range(len(group) + 1):
        for told in product(range(many), repeat=len(group)):
            colour = dict(zip(group, told))
            if all(colour[one] != colour[other] for one, other in combinations(group, 2)
                   if (one, other) in web.conflicts):
                return many


def plain_colours(web, group):
    return _colours_of(web.conflicts, tuple(group))


@lru_cache(maxsize=None)
def _colours_of(conflicts, group):
    if not group:
        return 0
    best = len(group)
    for others in subsets(group[1:]):
        part = (group[0],) + others
        if not any(pair in conflicts for pair in combinations(part, 2)):
            rest = tuple(thing for thing in group if thing not in part)
            best = min(best, 1 + _colours_of(conflicts, rest))
    return best


def shares_of(charge):
    """What each thing pays, in fractions of Python's own, read from the text of the charge."""
    told = {}
    for row in str(charge).split(", "):
        thing, paid = row.split(" ")
        told[thing] = Fraction(paid)
    return told


def pair_of(number):
    """A fraction as the program tells it."""
    number = Fraction(number)
    return (number.numerator, number.denominator)


def charge_of(shares):
    """The charge of a dict of fractions of Python's own."""
    shares = {thing: Fraction(share) for thing, share in shares.items()}
    unit = lcm(*[share.denominator for share in shares.values()])
    return Charge({thing: int(share * unit) for thing, share in shares.items()}, unit=unit)


def some_charges(web, times, seed):
    """Some charges of a web, small and large and below 0, the same at each run."""
    luck = random.Random(seed)
    for _ in range(times):
        unit = luck.choice((1, 1, 2, 3, 4, 6))
        least = luck.choice((-2, 0, 0))
        yield Charge({thing: luck.randint(least, unit + luck.choice((0, 0, 1))) for thing in web}, unit=unit)


def plain_excess(web, charge, group):
    shares = shares_of(charge)
    return sum((shares[thing] for thing in group), Fraction(0)) - plain_colours(web, group)


def near_tuples(value, items):
    """Values near a tuple: of another kind, without an item, with one more, with one exchanged, in another order."""
    yield from (list(value), dict(enumerate(value)), value[::-1], (value,))
    for at in range(len(value)):
        yield value[:at] + value[at + 1:]
        yield value[:at] + (value[at],) + value[at:]
        for item in items:
            yield value[:at] + (item,) + value[at + 1:]
    for at in range(len(value) + 1):
        for item in items:
            yield value[:at] + (item,) + value[at:]


def plain_within(web, charge):
    return all(plain_excess(web, charge, group) <= 0 for group in subsets(web.things))


def plain_bill(web, charge):
    return plain_excess(web, charge, web.things) == 0


def plain_scale(web, value):
    """Whether a pair of an integer and a dict, of just these kinds, is a scale."""
    unit, weights = value
    if type(unit) is not int or unit < 1:
        return False
    loose = all_loose(web)
    if not all(group in loose and type(weight) is int and weight >= 1 for group, weight in weights.items()):
        return False
    return all(sum(weight for group, weight in weights.items() if thing in group) >= unit for thing in web.things)
