"""Stage 11: shrinking webs and their sides [0.16] [11.1] [11.2]."""

import unittest
from fractions import Fraction
from itertools import combinations, permutations, product

from huebill.bills.charges import Charge, knot_charge
from huebill.bills.kept import is_kept
from huebill.errors import InvalidGroup, InvalidOperation, InvalidWeb, UnknownName
from huebill.orders.orders import count_kind, count_paying, is_kind, kind_bills, mean_bill
from huebill.orders.shrinking import cost, growing, is_shrinking, is_shrinking_paper, shrinking_paper, sides
from huebill.webs.colours import colours, greatest_knots
from huebill.webs.webs import Web
from tests.helper import (
    BOND, BRIDGE, DOT, EIGHT, EMPTY_EIGHT, FIVE, LETTERS, OTHER_KINDS, RINGS, ROW, Case, all_webs, big_webs,
    near_tuples, plain_colours, shares_of, sided_web, small_webs, some_charges, some_webs, subsets,
)

SIDED = [sided_web(*many) for many in ((1,), (3,), (1, 1), (2, 1), (1, 2, 1), (2, 2), (2, 3), (3, 3, 2), (1, 7), (8,),
                                       (1,) * 8, (4, 1, 3), (2, 2, 2, 2))]


def plain_cost(web, group, thing):
    return plain_colours(web, tuple(sorted(group + (thing,)))) - plain_colours(web, group)


def growths(web):
    """All triples of a thing, a group and a greater group that the thing costs more, by a look at all groups."""
    for thing in web:
        others = [group for group in subsets(web.things) if thing not in group]
        for group in others:
            for greater in others:
                if set(group) < set(greater) and plain_cost(web, greater, thing) > plain_cost(web, group, thing):
                    yield thing, group, greater


def plain_shrinking(web):
    return next(growths(web), None) is None


def plain_sides(web, value):
    """Whether a tuple of tuples of names is the sides."""
    if list(value) != sorted(value) or any(not side or list(side) != sorted(set(side)) for side in value):
        return False
    if sorted(thing for side in value for thing in side) != list(web.things):
        return False
    place = {thing: at for at, side in enumerate(value) for thing in side}
    return all((pair in web.conflicts) == (place[pair[0]] != place[pair[1]]) for pair in combinations(web.things, 2))


def plain_bond(web, value):
    return len(value) == 3 and len(set(value)) == 3 and set(value) <= set(web.things) and [
        tuple(sorted(pair)) in web.conflicts for pair in combinations(value, 2)] == [True, False, False]


def webs():
    yield from small_webs(4)
    yield from some_webs(5, 60, 41)
    yield from SIDED[:7]
    yield from (FIVE, ROW)


class Costs(Case):
    def test_costs(self):
        for web in list(small_webs(4)) + list(some_webs(5, 20, 42)) + [FIVE, BRIDGE, EIGHT]:
            for group in list(subsets(web.things))[:90]:
                for thing in web:
                    if thing in group:
                        self.refuses(InvalidOperation, lambda: cost(web, group, thing))
                    else:
                        found = cost(web, group, thing)
                        self.assertIs(type(found), int)
                        self.assertEqual(found, plain_cost(web, group, thing))
                        self.assertIn(found, (0, 1))

    def test_wrong_arguments(self):
        for value in OTHER_KINDS + [("b", "a"), ("z",), "a", ["a"], ("a", "a")]:
            self.refuses(InvalidGroup, lambda: cost(BOND, value, None))
        for value in OTHER_KINDS + ["d", ("a",)]:
            self.refuses(UnknownName, lambda: cost(BOND, ("a",), value), value)
        self.refuses(InvalidGroup, lambda: cost(BOND, ("z",), "z"))
        self.refuses(UnknownName, lambda: cost(BOND, ("a", "b", "c"), "z"), "z")


class Shrinking(Case):
    def test_against_the_colours_of_all_groups(self):
        seen = set()
        for web in webs():
            right = plain_shrinking(web)
            self.assertIs(is_shrinking(web), right, str(web))
            self.check_paper(web, right)
            found = growing(web)
            if right:
                self.assertIsNone(found)
            else:
                self.check_growing(web, found)
            seen.add(right)
        self.assertEqual(len(seen), 2)

    def check_growing(self, web, found):
        self.assertIs(type(found), tuple)
        thing, group, greater = found
        self.assertTrue(set(group) < set(greater) <= set(web.things) - {thing})
        self.assertEqual([list(group), list(greater)], [sorted(group), sorted(greater)])
        self.assertEqual((plain_cost(web, group, thing), plain_cost(web, greater, thing)), (0, 1))
        if len(web) < 6:
            self.assertIn(found, list(growths(web)))

    def check_paper(self, web, right):
        paper = shrinking_paper(web)
        self.assertIs(type(paper), tuple)
        self.is_true(is_shrinking_paper(web, paper))
        if right:
            self.assertEqual(paper, ("sides", sides(web)))
            self.assertTrue(plain_sides(web, paper[1]))
        else:
            self.assertEqual((paper[0], len(paper), sides(web)), ("bond", 4, None))
            self.assertTrue(plain_bond(web, paper[1:]))

    def test_great_webs(self):
        for web in big_webs():
            bonds = [three for three in permutations(web.things, 3) if plain_bond(web, three)]
            self.assertIs(is_shrinking(web), not bonds)
            self.check_paper(web, not bonds)
            if bonds:
                self.check_growing(web, growing(web))

    def test_how_many_there_are(self):
        self.assertEqual([sum(is_shrinking(web) for web in all_webs(many)) for many in range(1, 6)], [1, 2, 5, 15, 52])

    def test_all_orders_are_kind(self):
        for web in list(small_webs(4)) + SIDED[:6]:
            kind = all(is_kind(web, order) for order in permutations(web.things))
            self.assertEqual(is_shrinking(web), kind)

    def test_sides(self):
        self.assertEqual(sides(sided_web(2, 1, 3)), (("a", "b"), ("c",), ("d", "e", "f")))
        self.assertEqual(sides(sided_web(2, 2).renamed({"b": "c", "c": "b"})), (("a", "c"), ("b", "d")))
        self.assertEqual(sides(EMPTY_EIGHT), (EMPTY_EIGHT.things,))
        self.assertEqual(sides(~EMPTY_EIGHT), tuple((thing,) for thing in LETTERS))
        self.assertEqual([sides(web) for web in (DOT, RINGS[0], RINGS[1], FIVE, EIGHT)],
                         [(("x",),), (("a",), ("b",), ("c",)), (("a", "c"), ("b", "d")), None, None])


class InShrinkingWebs(Case):
    """What [11.2] says."""

    def test_colours_and_costs(self):
        for web in SIDED:
            for group in list(subsets(web.things))[:120]:
                met = [side for side in sides(web) if set(side) & set(group)]
                self.assertEqual(colours(web, group), len(met))
                for thing in web:
                    if thing not in group:
                        own = next(side for side in sides(web) if thing in side)
                        self.assertEqual(cost(web, group, thing), int(own not in met))

    def test_kept_bills(self):
        seen = set()
        for web in SIDED[:8]:
            charges = list(some_charges(web, 40, 19))
            if len(web) < 5:
                charges += [Charge(dict(zip(web.things, told)), unit=2)
                            for told in product((-1, 0, 1, 2), repeat=len(web))]
            for charge in charges + [mean_bill(web)]:
                shares = shares_of(charge)
                right = min(shares.values()) >= 0 and all(
                    sum(shares[thing] for thing in side) == 1 for side in sides(web))
                self.assertIs(is_kept(web, charge), right)
                seen.add(right)
        self.assertEqual(len(seen), 2)

    def test_greatest_knots_and_mean_bills(self):
        for web in SIDED:
            right = sorted(tuple(sorted(knot)) for knot in product(*sides(web)))
            self.assertEqual(list(greatest_knots(web)), right)
            self.assertEqual(list(kind_bills(web)), right)
            self.assertEqual(len({count_paying(web, knot) for knot in right}), 1)
            self.assertEqual(count_kind(web), sum(count_paying(web, knot) for knot in right))
            mean = {thing: Fraction(1, len(side)) for side in sides(web) for thing in side}
            self.assertEqual(shares_of(mean_bill(web)), mean)


class Papers(Case):
    def test_every_bond(self):
        for web in list(small_webs(4)) + [FIVE, BRIDGE]:
            for value in permutations(web.things, 3):
                self.assertIs(is_shrinking_paper(web, ("bond", *value)), plain_bond(web, value))

    def test_near_bonds(self):
        right = ("b", "c", "a")
        rights = [("b", "c", "a"), ("c", "b", "a")]
        for near in near_tuples(right, OTHER_KINDS + ["a", "b", "c", "d"]):
            if isinstance(near, tuple):
                self.assertIs(is_shrinking_paper(BOND, ("bond", *near)), near in rights, near)
            self.is_false(is_shrinking_paper(BOND, ("bond", near)))
            self.is_false(is_shrinking_paper(BOND, ("sides", near)))

    def test_near_sides(self):
        web = sided_web(2, 1, 1)
        right = (("a", "b"), ("c",), ("d",))
        items = OTHER_KINDS + [(), ("a",), ("b",), ("a", "b"), ("b", "a"), ("c", "d"), ("c",), "c", ["c"]]
        for near in near_tuples(right, items):
            self.assertIs(is_shrinking_paper(web, ("sides", near)), near == right, near)
        for value in [(("c",), ("a", "b"), ("d",)), (("b", "a"), ("c",), ("d",)), (("a",), ("b",), ("c",), ("d",)),
                      (("a", "b"), ("c", "d")), (("a", "b"), ("c",)), (("a", "b", "c", "d"),), (), ((), *right),
                      (*right, ("e",)), (("a", "b"), ("c",), ("d",), ("d",)), ["ab", "c", "d"], ("ab", "c", "d")]:
            self.is_false(is_shrinking_paper(web, ("sides", value)))
        for other in (BOND, FIVE, ROW, web.with_conflict("a", "b"), web.without_conflict("c", "d")):
            self.is_false(is_shrinking_paper(other, ("sides", right)))
            self.is_false(is_shrinking_paper(other, ("sides", None)))
            self.is_false(is_shrinking_paper(other, ("sides", ())))

    def test_just_one_form(self):
        for web in webs():
            bonds = [three for three in permutations(web.things, 3) if is_shrinking_paper(web, ("bond", *three))]
            parts = [(web.things,), tuple((thing,) for thing in web.things)]
            found = [value for value in parts if is_shrinking_paper(web, ("sides", value))]
            self.assertFalse(bonds and found)
            self.assertEqual(not bonds, is_shrinking(web))

    def test_values_near_papers(self):
        items = OTHER_KINDS + ["bond", "sides", "a", "b", (("a",), ("b", "c"))]
        right = ("bond", "b", "c", "a")
        rights = [right, ("bond", "c", "b", "a")]
        for near in near_tuples(right, items):
            self.assertIs(is_shrinking_paper(BOND, near), near in rights, near)
        right = ("sides", (("a",), ("b", "c")))
        for near in near_tuples(right, items):
            self.assertIs(is_shrinking_paper(~BOND, near), near == right, near)

    def test_values_of_other_kinds(self):
        for value in OTHER_KINDS + [["bond", "b", "c", "a"], knot_charge(BOND, ("a",)), BOND]:
            for web in (BOND, ~BOND, EIGHT):
                self.is_false(is_shrinking_paper(web, value))
                self.is_false(is_shrinking_paper(web, ("sides", value)))
                self.is_false(is_shrinking_paper(web, ("bond", value, "c", "a")))


class Refusals(Case):
    def test_no_web(self):
        for value in [value for value in OTHER_KINDS if not isinstance(value, Web)] + [FIVE.things]:
            for call in (is_shrinking, sides, shrinking_paper, growing):
                self.refuses(InvalidWeb, lambda: call(value))
            self.refuses(InvalidWeb, lambda: is_shrinking_paper(value, None))
            self.refuses(InvalidWeb, lambda: cost(value, None, None))


if __name__ == "__main__":
    unittest.main()
