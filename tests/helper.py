"""What several tests use: webs, wrong values, and a plain search that shares nothing with the program but `Web`."""

import random
import re
import unittest
from fractions import Fraction
from functools import lru_cache
from itertools import combinations, permutations, product
from math import lcm

from huebill.bills.charges import Charge
from huebill.bills.exists import has_kept
from huebill.errors import InvalidNumber, UnknownName
from huebill.webs.webs import Web, round_web, row_web

LETTERS = tuple("abcdefgh")
BOND = Web(("a", "b", "c"), (("b", "c"),))
ROW = row_web(tuple("abcd"))
FIVE = round_web(tuple("abcde"), 1)
EIGHT = round_web(tuple("abcdefgh"), 1, 2)
BRIDGE = Web(
    tuple("abcdef"), (("a", "b"), ("a", "c"), ("b", "c"), ("c", "d"), ("d", "e"), ("d", "f"), ("e", "f"))
)
DOT = Web(("x",), ())
EMPTY_EIGHT = Web(LETTERS, ())
RINGS = [round_web(LETTERS[:many], 1) for many in range(3, 9)]
LONG = 10 ** 60
LONGEST = LONG - 1

# Values of every kind that can be passed; none of them is a thing, a group or a charge of the webs that are used.
OTHER_KINDS = [
    None, True, False, 0, 1, -1, 2, LONGEST, LONG, -LONG, 10 ** 99,
    "", "A", "a b", "abcdefghi", "x" * 3000, "a\n", "parts", "kept", "scale", "-", "1",
    [], ["a"], ["a", "b"], [["a"]], {}, {"a": "b"}, {1: 1}, {("a",): None}, {None: {}}, {"kept": True},
    ("A",), ("a", 1), ("b", "a"), ("a", "a"), ("a", None), ("a", ("b",)), (("a",), "b"), ("a", ["b"]), ("zz",), (True,),
    (1, 2, 3), (0,), ("kept",), ("kept", None), ("kept", ()), ("scale", 1), ("scale", (1, {})), ("parts", None, None),
    ("parts",), (1, {}), (True, {("a",): 1}), (((((((((),),),),),),),),), [[[[[[[[[[]]]]]]]]]],
    DOT, Charge({"zz": 1}), InvalidNumber(3), UnknownName("a"), (DOT, DOT), (Charge({"zz": 1}),),
]


def plain_name(value):
    return isinstance(value, str) and re.fullmatch("[a-z]{1,8}", value) is not None


def plain_names(value):
    """Whether the value is a tuple of one to eight different names."""
    if not isinstance(value, tuple) or not all(plain_name(name) for name in value):
        return False
    return 1 <= len(value) <= 8 and len(set(value)) == len(value)


NOT_NAMES = [value for value in OTHER_KINDS if not plain_name(value)]
NOT_THINGS = [value for value in OTHER_KINDS if not plain_names(value)]


class Case(unittest.TestCase):
    """A test that can ask for the very error, and for what it keeps."""

    def refuses(self, error, call, *kept):
        with self.assertRaises(error) as caught:
            call()
        self.assertIs(type(caught.exception), error)
        if kept:
            found = list(vars(caught.exception).values())
            self.assertEqual(len(found), 1)
            self.assertIs(type(found[0]), type(kept[0]))
            self.assertEqual(found[0], kept[0])

    def is_true(self, value, note=None):
        self.assertIs(value, True, note)

    def is_false(self, value, note=None):
        self.assertIs(value, False, note)


def web_of(things, pairs):
    return Web(tuple(things), tuple(pairs))


def all_webs(many):
    """All webs of the first so many letters."""
    pairs = list(combinations(LETTERS[:many], 2))
    for told in product((False, True), repeat=len(pairs)):
        yield web_of(LETTERS[:many], [pair for pair, there in zip(pairs, told) if there])


def small_webs(most=4):
    for many in range(1, most + 1):
        yield from all_webs(many)


def some_webs(many, times, seed):
    """Some webs of the first so many letters, the same at each run."""
    luck = random.Random(seed)
    for _ in range(times):
        pairs = combinations(LETTERS[:many], 2)
        dense = luck.random()
        yield web_of(LETTERS[:many], [pair for pair in pairs if luck.random() < dense])


def big_webs():
    """Rings of three to eight things, their turned webs, EIGHT, EIGHT without a thing, and more of six to eight."""
    yield from RINGS
    for ring in RINGS:
        yield ~ring
    yield from (EIGHT, BRIDGE, EMPTY_EIGHT, ~EMPTY_EIGHT)
    for thing in EIGHT:
        yield EIGHT.without(thing)
    for many in (6, 7, 8):
        yield from some_webs(many, 8, many)


def sided_web(*many):
    """The web of sides of so many things: two things are in conflict just if they are on unlike sides."""
    places = [side for side, size in enumerate(many) for _ in range(size)]
    pairs = combinations(range(len(places)), 2)
    return web_of(LETTERS[:len(places)], [(LETTERS[one], LETTERS[other]) for one, other in pairs
                                          if places[one] != places[other]])


def subsets(things):
    """All tuples of some of the things, by their number."""
    for many in range(len(things) + 1):
        yield from combinations(things, many)


def plain_loose(web, group):
    return not any(pair in web.conflicts for pair in combinations(group, 2))


def plain_knot(web, group):
    return all(pair in web.conflicts for pair in combinations(group, 2))


def all_loose(web):
    """All loose groups but the empty one, by a look at every group."""
    return [group for group in subsets(web.things) if group and plain_loose(web, group)]


def all_knots(web):
    return [group for group in subsets(web.things) if group and plain_knot(web, group)]


def tried_colours(web, group):
    """The colours of a small group, by a look at every way to give its things colours."""
    for many in range(len(group) + 1):
        for told in product(range(many), repeat=len(group)):
            colour = dict(zip(group, told))
            if all(colour[one] != colour[other] for one, other in combinations(group, 2)
                   if (one, other) in web.conflicts):
                return many


def plain_colours(web, group):
    return _colours_of(web.conflicts, tuple(group))


@lru_cache(maxsize=None)
def _colours_of(conflicts, group):
    if not group:
        return 0
    best = len(group)
    for others in subsets(group[1:]):
        part = (group[0],) + others
        if not any(pair in conflicts for pair in combinations(part, 2)):
            rest = tuple(thing for thing in group if thing not in part)
            best = min(best, 1 + _colours_of(conflicts, rest))
    return best


def shares_of(charge):
    """What each thing pays, in fractions of Python's own, read from the text of the charge."""
    told = {}
    for row in str(charge).split(", "):
        thing, paid = row.split(" ")
        told[thing] = Fraction(paid)
    return told


def pair_of(number):
    """A fraction as the program tells it."""
    number = Fraction(number)
    return (number.numerator, number.denominator)


def charge_of(shares):
    """The charge of a dict of fractions of Python's own."""
    shares = {thing: Fraction(share) for thing, share in shares.items()}
    unit = lcm(*[share.denominator for share in shares.values()])
    return Charge({thing: int(share * unit) for thing, share in shares.items()}, unit=unit)


def some_charges(web, times, seed):
    """Some charges of a web, small and large and below 0, the same at each run."""
    luck = random.Random(seed)
    for _ in range(times):
        unit = luck.choice((1, 1, 2, 3, 4, 6))
        least = luck.choice((-2, 0, 0))
        yield Charge({thing: luck.randint(least, unit + luck.choice((0, 0, 1))) for thing in web}, unit=unit)


def plain_excess(web, charge, group):
    shares = shares_of(charge)
    return sum((shares[thing] for thing in group), Fraction(0)) - plain_colours(web, group)


def near_tuples(value, items):
    """Values near a tuple: of another kind, without an item, with one more, with one exchanged, in another order."""
    yield from (list(value), dict(enumerate(value)), value[::-1], (value,))
    for at in range(len(value)):
        yield value[:at] + value[at + 1:]
        yield value[:at] + (value[at],) + value[at:]
        for item in items:
            yield value[:at] + (item,) + value[at + 1:]
    for at in range(len(value) + 1):
        for item in items:
            yield value[:at] + (item,) + value[at:]


def plain_within(web, charge):
    return all(plain_excess(web, charge, group) <= 0 for group in subsets(web.things))


def plain_bill(web, charge):
    return plain_excess(web, charge, web.things) == 0


def plain_scale(web, value):
    """Whether a pair of an integer and a dict, of just these kinds, is a scale."""
    unit, weights = value
    if type(unit) is not int or unit < 1:
        return False
    loose = all_loose(web)
    if not all(group in loose and type(weight) is int and weight >= 1 for group, weight in weights.items()):
        return False
    return all(sum(weight for group, weight in weights.items() if thing in group) >= unit for thing in web.things)


def plain_by_loose(web, charge):
    """Whether a charge is within, by a look at the loose groups alone."""
    shares = shares_of(charge)
    return all(sum(shares[thing] for thing in group) <= 1 for group in all_loose(web))


def plain_kept(web, charge):
    return plain_by_loose(web, charge) and plain_bill(web, charge)


def plain_parts_of(web, group):
    """The web of the things of a group."""
    return Web(group, tuple(pair for pair in web.conflicts if pair[0] in group and pair[1] in group))


def plain_full_knots(web):
    knots = all_knots(web)
    return [knot for knot in knots if not any(set(knot) < set(other) for other in knots)]


def plain_greatest(web):
    """The greatest knots, ascending, by a look at all groups."""
    return list(_greatest_of(web.things, web.conflicts))


@lru_cache(maxsize=None)
def _greatest_of(things, conflicts):
    knots = [group for group in subsets(things) if all(pair in conflicts for pair in combinations(group, 2))]
    most = max(len(knot) for knot in knots)
    return tuple(sorted(knot for knot in knots if len(knot) == most))


def most_in_knots(web, group):
    """The most things of a group that are a knot."""
    return len(_greatest_of(group, web.conflicts)[0])


def plain_spoiled(web):
    """The first group without a knot of as many things as it has colours, by a look at all groups; or None."""
    for group in subsets(web.things):
        if most_in_knots(web, group) < plain_colours(web, group):
            return group
    return None


def ringed_webs():
    """Rings of three to eight things and their turned webs, and those of up to seven with one thing more."""
    for ring in RINGS:
        for web in (ring, ~ring):
            yield web
            if len(web) < 8:
                for beside in ((), ("a",), ("a", "b"), ("a", "c"), web.things[1:], web.things):
                    yield web.with_thing("z", beside=beside)
                    yield web.renamed({"a": "y"}).with_thing("a", beside=tuple(
                        thing for thing in beside if thing != "a"))


def more_webs():
    """Webs of all sizes, the same at each run: small ones, drawn ones and the great ones."""
    yield from small_webs(4)
    yield from some_webs(5, 50, 31)
    yield from some_webs(6, 25, 32)
    yield from big_webs()


def good_webs():
    return [web for web in more_webs() if plain_spoiled(web) is None]


def bad_webs():
    """Webs that are not good, each with its first spoiled group."""
    return [(web, plain_spoiled(web)) for web in list(ringed_webs()) + [EIGHT] if plain_spoiled(web) is not None]


def mixed_shares(web, shares):
    """What each thing pays by a dict from knots to whole shares, in fractions of Python's own."""
    unit = sum(shares.values())
    return {thing: Fraction(sum(part for knot, part in shares.items() if thing in knot), unit) for thing in web}


def mix(web, shares):
    """The charge of a dict from knots to whole shares."""
    return charge_of(mixed_shares(web, shares))


def some_mixings(web, times, seed):
    """Some pairs of a unit and a dict of shares of greatest knots, the same at each run."""
    luck = random.Random(seed)
    knots = plain_greatest(web)
    for _ in range(times):
        chosen = luck.sample(knots, luck.randint(1, len(knots)))
        shares = {knot: luck.randint(1, 9) for knot in chosen}
        yield sum(shares.values()), shares


def near_dicts(told, keys, items):
    """Values near a dict: of another kind, without a key, with other keys, with other values."""
    yield from (list(told), tuple(told.items()), list(told.items()), {})
    for key in told:
        yield {other: told[other] for other in told if other != key}
        for item in items:
            yield {**told, key: item}
    for key in keys:
        for item in items:
            yield {**told, key: item}


def longest(value):
    """The most digits of an integer in a value."""
    if isinstance(value, int):
        return len(str(abs(value)))
    if isinstance(value, Charge):
        return longest((value.unit, value.pays))
    if isinstance(value, dict):
        return max([longest(part) for part in value.values()] + [0])
    if isinstance(value, tuple):
        return max([longest(part) for part in value] + [0])
    return 0


def rank(rows):
    """The rank of rows of fractions of Python's own."""
    rows = [[Fraction(cell) for cell in row] for row in rows]
    found = 0
    for column in range(len(rows[0]) if rows else 0):
        at = next((at for at in range(found, len(rows)) if rows[at][column]), None)
        if at is None:
            continue
        rows[found], rows[at] = rows[at], rows[found]
        for other in range(found + 1, len(rows)):
            part = rows[other][column] / rows[found][column]
            rows[other] = [one - part * two for one, two in zip(rows[other], rows[found])]
        found += 1
    return found


def plain_properties(web):
    """The words that are true of a web: "kept" as the package says it, all others by plain looks at its groups."""
    return _properties_of(web.things, web.conflicts)


@lru_cache(maxsize=None)
def _properties_of(things, conflicts):
    web = Web(things, conflicts)
    most = len(plain_greatest(web)[0])
    good = plain_spoiled(web) is None
    held = {thing for knot in plain_greatest(web) for thing in knot}
    ties = {frozenset(pair) for pair in conflicts}
    fours = [[frozenset(pair) in ties for pair in combinations(four, 2)] for four in permutations(things, 4)]
    bad_fours = [[True, False, False, True, False, True], [True, False, False, False, False, True]]
    threes = [[frozenset(pair) in ties for pair in combinations(three, 2)] for three in combinations(things, 3)]
    found = {
        "enough": most == plain_colours(web, things),
        "exact": good and all(len(knot) == most for knot in plain_full_knots(web)),
        "good": good,
        "kept": has_kept(web),
        "planned": not any(four in bad_fours for four in fours),
        "shrinking": not any(three.count(True) == 1 for three in threes),
        "steady": good and held == set(things),
    }
    return tuple(word for word in sorted(found) if found[word])


def plain_hold_is_true(web, hold):
    """Whether a hold is true of a web, by plain looks."""
    if isinstance(hold, str):
        return hold in plain_properties(web)
    if hold[0] == "colours":
        return plain_colours(web, web.things) <= hold[1]
    return not any(one in hold[1] and other in hold[1] for one, other in web.conflicts)


def plain_along(web, order, charges):
    """Whether a tuple of charges is along a room of this web with this order of coming."""
    if len(charges) != len(order):
        return False
    for at, charge in enumerate(charges):
        group = tuple(sorted(order[:at + 1]))
        if charge.things != group or not plain_kept(plain_parts_of(web, group), charge):
            return False
        if at > 0:
            now, before = shares_of(charge), shares_of(charges[at - 1])
            if any(now[thing] > before[thing] for thing in order[:at]):
                return False
    return True
