"""Stage 9: even bills [9.1] [9.2] [9.3]."""

import unittest
from fractions import Fraction

from huebill.bills.charges import Charge, knot_charge
from huebill.bills.even import (
    equal_bill, floor_paper, greatest_floor, height_paper, is_equal_kept, is_floor_paper, is_height_paper, least_height,
)
from huebill.errors import InvalidWeb, Spoiled
from huebill.webs.webs import Web, round_web
from tests.helper import (
    BOND, BRIDGE, DOT, EIGHT, EMPTY_EIGHT, FIVE, LONGEST, OTHER_KINDS, RINGS, ROW, Case, all_loose, bad_webs, big_webs,
    good_webs, longest, mix, near_dicts, near_tuples, pair_of, plain_by_loose, plain_colours, plain_greatest,
    plain_kept, shares_of, small_webs, some_mixings, some_webs,
)

STAR = Web(tuple("abcd"), (("a", "b"), ("a", "c"), ("a", "d")))
THIRD = Charge({"a": 3, "b": 1, "c": 1, "d": 1}, unit=3)
HALF = Charge({thing: 1 for thing in ROW}, unit=2)
GOOD = good_webs() + [STAR]


def plain_weights(web, value):
    """Whether a pair of anything and a dict is weights."""
    unit, weights = value
    if type(unit) is not int or not weights:
        return False
    if not all(thing in web.things and type(weight) is int and weight >= 1 for thing, weight in weights.items()):
        return False
    return sum(weights.values()) == unit


def knot_weights(web, value):
    unit, weights = value
    return [Fraction(sum(weights.get(thing, 0) for thing in knot), unit) for knot in plain_greatest(web)]


def plain_height_paper(web, value):
    """Whether a triple of a word, a charge of the web and a pair of anything and a dict is a paper."""
    word, charge, weights = value
    if word != "height" or not plain_kept(web, charge) or not plain_weights(web, weights):
        return False
    return min(knot_weights(web, weights)) >= max(shares_of(charge).values())


def plain_floor_paper(web, value):
    word, charge, weights = value
    if word != "floor" or not plain_kept(web, charge) or not plain_weights(web, weights):
        return False
    return max(knot_weights(web, weights)) <= min(shares_of(charge).values())


def near_weights(web, told):
    unit, weights = told
    items = [0, 1, 2, 3, -1, True, None, "1", (1,)]
    for near in near_dicts(weights, list(web.things) + ["z", ("a",), None, 1, True], items):
        for other in (unit - 1, unit, unit + 1, unit + 2):
            yield other, near
    for other in (0, -1, True, None, str(unit), (unit,), 10 ** 80):
        yield other, weights
    many = 10 ** 80
    yield unit * many, {thing: weight * many for thing, weight in weights.items()}
    yield unit * many + 1, {thing: weight * many for thing, weight in weights.items()}


class Heights(Case):
    def test_height_papers(self):
        for web in GOOD:
            paper = height_paper(web)
            self.assertEqual((type(paper), len(paper)), (tuple, 3))
            self.assertTrue(plain_height_paper(web, paper), str(web))
            self.is_true(is_height_paper(web, paper))
            height = max(shares_of(paper[1]).values())
            self.assertEqual(least_height(web), pair_of(height))
            self.assertEqual(min(knot_weights(web, paper[2])), height)
            self.check_form(web, paper)
            self.assertEqual(height_paper(web), paper)

    def test_floor_papers(self):
        for web in GOOD:
            paper = floor_paper(web)
            self.assertEqual((type(paper), len(paper)), (tuple, 3))
            self.assertTrue(plain_floor_paper(web, paper), str(web))
            self.is_true(is_floor_paper(web, paper))
            floor = min(shares_of(paper[1]).values())
            self.assertEqual(greatest_floor(web), pair_of(floor))
            self.assertEqual(max(knot_weights(web, paper[2])), floor)
            self.check_form(web, paper)
            self.assertEqual(floor_paper(web), paper)

    def check_form(self, web, paper):
        self.assertEqual(paper[1].things, web.things)
        self.assertEqual(list(paper[2][1]), sorted(paper[2][1]))
        self.assertLessEqual(longest(paper), 20)

    def test_no_bill_is_lower_or_has_a_higher_floor(self):
        for web in GOOD:
            for value in some_mixings(web, 4, 17):
                paid = shares_of(mix(web, value[1])).values()
                self.assertGreaterEqual(max(paid), Fraction(*least_height(web)))
                self.assertLessEqual(min(paid), Fraction(*greatest_floor(web)))

    def test_no_weights_are_better(self):
        for web in GOOD[::3]:
            for thing in web:
                weights = knot_weights(web, (1, {thing: 1}))
                self.assertLessEqual(min(weights), Fraction(*least_height(web)))
                self.assertGreaterEqual(max(weights), Fraction(*greatest_floor(web)))
            weights = knot_weights(web, (len(web), {thing: 1 for thing in web}))
            self.assertLessEqual(min(weights), Fraction(*least_height(web)))
            self.assertGreaterEqual(max(weights), Fraction(*greatest_floor(web)))

    def test_when_the_floor_is_0(self):
        seen = set()
        for web in GOOD:
            held = {thing for knot in plain_greatest(web) for thing in knot}
            self.assertEqual(greatest_floor(web) == (0, 1), held != set(web.things))
            seen.add(held == set(web.things))
        self.assertEqual(len(seen), 2)

    def test_known_numbers(self):
        self.assertEqual([(least_height(web), greatest_floor(web)) for web in (DOT, EMPTY_EIGHT, ~EMPTY_EIGHT, ROW)],
                         [((1, 1), (1, 1)), ((1, 8), (1, 8)), ((1, 1), (1, 1)), ((1, 2), (1, 2))])
        self.assertEqual([least_height(~STAR), greatest_floor(~STAR)], [(1, 1), (0, 1)])
        self.assertEqual([least_height(RINGS[3]), greatest_floor(RINGS[3])], [(1, 3), (1, 3)])


class Papers(Case):
    def test_near_height_papers(self):
        cases = [(ROW, HALF, (2, {"a": 1, "c": 1})), (ROW, HALF, (4, {"a": 1, "b": 1, "c": 1, "d": 1})),
                 (STAR, THIRD, (5, {"a": 5})), (BOND, knot_charge(BOND, ("b", "c")), (1, {"b": 1}))]
        for web, charge, told in cases:
            seen = set()
            for weights in near_weights(web, told):
                right = isinstance(weights[1], dict) and plain_height_paper(web, ("height", charge, weights))
                self.assertIs(is_height_paper(web, ("height", charge, weights)), right, weights)
                seen.add(right)
            self.assertEqual(len(seen), 2)

    def test_near_floor_papers(self):
        cases = [(STAR, THIRD, (3, {"b": 1, "c": 1, "d": 1})), (BOND, knot_charge(BOND, ("b", "c")), (1, {"a": 1})),
                 (ROW, HALF, (2, {"b": 1, "d": 1})), (DOT, Charge({"x": 1}), (2, {"x": 2}))]
        for web, charge, told in cases:
            seen = set()
            for weights in near_weights(web, told):
                right = isinstance(weights[1], dict) and plain_floor_paper(web, ("floor", charge, weights))
                self.assertIs(is_floor_paper(web, ("floor", charge, weights)), right, weights)
                seen.add(right)
            self.assertEqual(len(seen), 2)

    def test_other_charges(self):
        tiny = Charge({"a": 1, "b": -1, "c": -1, "d": 1}).times(1, LONGEST).times(1, LONGEST)
        for charge in (HALF, HALF + tiny, HALF - tiny, HALF.times(2), HALF.times(1, 2), knot_charge(ROW, ("a", "b")),
                       knot_charge(ROW, ("a", "d")), knot_charge(ROW, ("b", "c")), HALF + tiny.times(-1, 3)):
            for weights in ((2, {"a": 1, "c": 1}), (2, {"b": 1, "d": 1}), (4, {"a": 1, "b": 1, "c": 1, "d": 1})):
                self.assertIs(is_height_paper(ROW, ("height", charge, weights)),
                              plain_height_paper(ROW, ("height", charge, weights)), str(charge))
                self.assertIs(is_floor_paper(ROW, ("floor", charge, weights)),
                              plain_floor_paper(ROW, ("floor", charge, weights)), str(charge))
        for charge in (Charge({"a": 1}), HALF.pays, None, HALF.cut(("a", "b"))):
            self.is_false(is_height_paper(ROW, ("height", charge, (2, {"a": 1, "c": 1}))))
            self.is_false(is_floor_paper(ROW, ("floor", charge, (2, {"b": 1, "d": 1}))))

    def test_a_bill_that_is_not_the_lowest(self):
        knot = knot_charge(ROW, ("a", "b"))
        for weights in ((1, {"a": 1}), (2, {"a": 1, "b": 1}), (2, {"a": 1, "c": 1})):
            self.is_false(is_height_paper(ROW, ("height", knot, weights)))
        self.is_false(is_floor_paper(ROW, ("floor", knot, (2, {"c": 1, "d": 1}))))

    def test_values_near_papers(self):
        items = OTHER_KINDS + [HALF, "height", "floor", (2, {"a": 1, "c": 1})]
        right = ("height", HALF, (2, {"a": 1, "c": 1}))
        for near in near_tuples(right, items):
            self.assertIs(is_height_paper(ROW, near), near == right, near)
            self.is_false(is_floor_paper(ROW, near) and near[0] != "floor")
        right = ("floor", HALF, (2, {"a": 1, "c": 1}))
        for near in near_tuples(right, items):
            self.assertIs(is_floor_paper(ROW, near), near == right, near)

    def test_values_of_other_kinds(self):
        for value in OTHER_KINDS + [HALF, ["height", HALF, (2, {"a": 1, "c": 1})]]:
            self.is_false(is_height_paper(ROW, value))
            self.is_false(is_floor_paper(ROW, value))
            self.is_false(is_height_paper(ROW, ("height", HALF, value)))
            self.is_false(is_floor_paper(ROW, ("floor", HALF, value)))


class EqualBills(Case):
    def test_equal_bills(self):
        seen = set()
        for web in list(small_webs(4)) + list(some_webs(5, 30, 91)) + list(big_webs()):
            charge = equal_bill(web)
            many = plain_colours(web, web.things)
            self.assertEqual(shares_of(charge), {thing: Fraction(many, len(web)) for thing in web})
            self.assertEqual(charge.total, (many, 1))
            kept = plain_by_loose(web, charge)
            self.assertIs(is_equal_kept(web), kept)
            self.assertEqual(kept, len(web) == many * max(len(group) for group in all_loose(web)))
            seen.add(kept)
        self.assertEqual(len(seen), 2)

    def test_webs_that_are_not_good(self):
        self.assertEqual(equal_bill(EIGHT), Charge({thing: 1 for thing in EIGHT}, unit=2))
        self.is_true(is_equal_kept(EIGHT))
        self.is_false(is_equal_kept(FIVE))
        self.is_false(is_equal_kept(~RINGS[4]))
        self.assertEqual(equal_bill(FIVE)["c"], (3, 5))
        self.is_true(is_equal_kept(round_web(tuple("abcdef"), 1)))


class Refusals(Case):
    def test_no_web(self):
        for value in [value for value in OTHER_KINDS if not isinstance(value, Web)] + [FIVE.things]:
            for call in (least_height, greatest_floor, height_paper, floor_paper, equal_bill, is_equal_kept):
                self.refuses(InvalidWeb, lambda: call(value))
            for call in (is_height_paper, is_floor_paper):
                self.refuses(InvalidWeb, lambda: call(value, None))

    def test_webs_that_are_not_good(self):
        for web, group in bad_webs():
            for call in (least_height, greatest_floor, height_paper, floor_paper):
                self.refuses(Spoiled, lambda: call(web), group)
            for value in (None, True, ("height", knot_charge(web, ()), (1, {"b": 1})), ("floor",)):
                self.refuses(Spoiled, lambda: is_height_paper(web, value), group)
                self.refuses(Spoiled, lambda: is_floor_paper(web, value), group)
            self.assertEqual(len(equal_bill(web)), len(web))

    def test_known_spoiled_groups(self):
        self.refuses(Spoiled, lambda: least_height(EIGHT), ("a", "b", "d", "e", "g"))
        self.refuses(Spoiled, lambda: greatest_floor(FIVE), FIVE.things)
        self.assertEqual(greatest_floor(BRIDGE), (1, 2))


if __name__ == "__main__":
    unittest.main()
