"""Stage 13: exact and wide webs [0.18] [13.1] [13.2], and what [0.19] says of them."""

import random
import unittest
from fractions import Fraction
from itertools import product

from huebill.bills.charges import Charge, knot_charge
from huebill.bills.exact import (
    exact_paper, is_exact, is_exact_paper, is_lift_paper, is_wide, is_wide_paper, lift, lift_paper, paying_bill,
    wide_paper,
)
from huebill.bills.exists import has_kept
from huebill.bills.kept import is_kept
from huebill.errors import InvalidCharge, InvalidGroup, InvalidWeb, Spoiled
from huebill.orders.shrinking import is_shrinking
from huebill.plans.plans import has_plan
from huebill.webs.colours import is_enough
from huebill.webs.good import good_paper, is_good
from huebill.webs.webs import Web
from tests.helper import (
    BOND, BRIDGE, DOT, EIGHT, EMPTY_EIGHT, FIVE, LONG, LONGEST, OTHER_KINDS, RINGS, ROW, Case, all_webs, bad_webs,
    good_webs, longest, mix, more_webs, near_dicts, near_tuples, plain_by_loose, plain_colours, plain_full_knots,
    plain_greatest, plain_kept, plain_spoiled, ringed_webs, shares_of, sided_web, small_webs, some_charges,
    some_mixings, some_webs, subsets,
)

SEVEN = RINGS[4]
LOW = knot_charge(BRIDGE, ("c", "d"))
GOOD = good_webs() + [sided_web(3, 3, 2)]


def plain_exact(web):
    return plain_spoiled(web) is None and len({len(knot) for knot in plain_full_knots(web)}) == 1


def plain_exact_knots(web, value):
    """Whether a dict is one from all groups to greatest knots that have of each as many things as its colours."""
    groups = [group for group in subsets(web.things) if group]
    knots = plain_greatest(web)
    if sorted(value, key=str) != sorted(groups, key=str) or len(knots[0]) != plain_colours(web, web.things):
        return False
    return all(value[group] in knots and len(set(value[group]) & set(group)) == plain_colours(web, group)
               for group in groups)


def plain_pulls(web, charge, value):
    """Whether a dict is pulls of a charge, by sums over all greatest knots."""
    if not value or not all(thing in web.things and type(pull) is int and pull >= 1 for thing, pull in value.items()):
        return False
    shares = shares_of(charge)
    paid = sum(pull * shares[thing] for thing, pull in value.items())
    return all(sum(pull for thing, pull in value.items() if thing in knot) < paid for knot in plain_greatest(web))


def plain_lifts(web, charge, bill):
    """Whether a bill is kept and lifts a charge."""
    low, high = shares_of(charge), shares_of(bill)
    return plain_kept(web, bill) and all(low[thing] <= high[thing] for thing in web)


def charges_of(web, times, seed):
    """Charges of many kinds: drawn ones, ones below kept bills, and ones that are a little off."""
    luck = random.Random(seed)
    yield from some_charges(web, times, seed)
    for _, shares in some_mixings(web, times, seed):
        bill = mix(web, shares)
        less = Charge({thing: luck.choice((0, 0, -1, -5)) for thing in web}, unit=luck.choice((1, 2, 7)))
        yield bill
        yield bill + less
        yield bill + less + Charge({thing: int(thing == web.things[0]) for thing in web}, unit=3)
    for group in plain_full_knots(web):
        yield knot_charge(web, group)


class Exact(Case):
    def check(self, web):
        right = plain_exact(web)
        self.assertIs(is_exact(web), right, str(web))
        paper = exact_paper(web)
        self.assertEqual((type(paper), len(paper)), (tuple, 2))
        self.is_true(is_exact_paper(web, paper))
        word, shown = paper
        self.assertEqual(word == "exact", right)
        if right:
            self.assertTrue(plain_exact_knots(web, shown))
            self.assertEqual(list(shown), sorted(shown))
        elif word == "knot":
            self.assertIn(shown, plain_full_knots(web))
            self.assertLess(len(shown), plain_colours(web, web.things))
        else:
            self.assertIsNotNone(plain_spoiled(web))
            self.assertEqual(paper, good_paper(web))
        return word

    def test_webs(self):
        words = {self.check(web) for web in list(more_webs()) + list(all_webs(5))[::7]}
        self.assertEqual(words, {"exact", "knot", "ring", "turned"})
        self.assertLessEqual({self.check(web) for web in ringed_webs()}, words)

    def test_small_webs(self):
        self.assertEqual(sum(is_exact(web) for web in all_webs(4)), 30)

    def test_near_exact_papers(self):
        for web in (ROW, DOT, RINGS[0], sided_web(2, 1)):
            knots = exact_paper(web)[1]
            items = list(subsets(web.things)) + [("b", "a"), ("z",), "a", ["a"], None, 1, True, {}]
            seen = set()
            for near in near_dicts(knots, [(), ("b", "a"), ("z",), "a", None, True, 1], items):
                right = isinstance(near, dict) and plain_exact_knots(web, near) if all_tuples(near) else False
                self.assertIs(is_exact_paper(web, ("exact", near)), right, near)
                seen.add(right)
            self.assertIn(False, seen)
            self.is_true(is_exact_paper(web, ("exact", dict(reversed(knots.items())))))

    def test_no_exact_paper_of_other_webs(self):
        for web in [web for web in more_webs() if not plain_exact(web)][::4]:
            knots = {group: max(plain_greatest(web), key=lambda knot: len(set(knot) & set(group)))
                     for group in subsets(web.things) if group}
            self.is_false(is_exact_paper(web, ("exact", knots)))

    def test_knots(self):
        for web in list(small_webs(4)) + [BRIDGE, FIVE, EIGHT, SEVEN, RINGS[3]]:
            full = plain_full_knots(web)
            for group in subsets(web.things):
                right = group in full and len(group) < plain_colours(web, web.things)
                self.assertIs(is_exact_paper(web, ("knot", group)), right)
                self.is_false(is_exact_paper(web, ("exact", group)))
                self.is_false(is_exact_paper(web, ("knot", list(group))))
        for near in near_tuples(("c", "d"), OTHER_KINDS + ["a", "c", "d", "z"]):
            self.assertIs(is_exact_paper(BRIDGE, ("knot", near)), near == ("c", "d"))

    def test_rings(self):
        for web, paper in ((FIVE, ("ring", tuple("cbaed"))), (SEVEN, ("ring", SEVEN.things)),
                           (~SEVEN, ("turned", SEVEN.things))):
            self.is_true(is_exact_paper(web, paper))
            self.is_false(is_exact_paper(ROW, paper))
            self.is_false(is_exact_paper(web, ("turned" if paper[0] == "ring" else "ring", paper[1])))
            self.is_false(is_exact_paper(web, (paper[0], paper[1][::-2])))
            self.is_false(is_exact_paper(web, (paper[0], paper[1][:1] + paper[1][2:] + paper[1][1:2])))
        self.is_false(is_exact_paper(BOND, ("good", good_paper(BOND)[1])))

    def test_values_near_papers(self):
        items = OTHER_KINDS + ["exact", "knot", "ring", "turned", ("c", "d"), FIVE.things]
        for web, right in ((BRIDGE, ("knot", ("c", "d"))), (FIVE, ("ring", FIVE.things)), (ROW, exact_paper(ROW)),
                           (~SEVEN, ("turned", SEVEN.things))):
            for near in near_tuples(right, items):
                self.assertIs(is_exact_paper(web, near), near == right, near)

    def test_values_of_other_kinds(self):
        for value in OTHER_KINDS + [list(exact_paper(ROW)), knot_charge(ROW, ()), ROW]:
            for web in (ROW, BRIDGE, FIVE):
                self.is_false(is_exact_paper(web, value))
                for word in ("exact", "knot", "ring", "turned"):
                    self.is_false(is_exact_paper(web, (word, value)))

    def test_what_the_main_statements_say(self):
        for web in list(small_webs(4)) + list(all_webs(5))[::9] + list(some_webs(6, 40, 101)):
            if is_shrinking(web):
                self.assertEqual([has_plan(web), is_exact(web)], [True, True])
            if has_plan(web) or is_exact(web):
                self.is_true(is_good(web))
            if is_good(web):
                self.is_true(is_enough(web))
                self.assertIs(is_wide(web), is_exact(web))
            if is_enough(web):
                self.is_true(has_kept(web))
            held = {thing for knot in plain_greatest(web) for thing in knot}
            self.assertEqual(is_shrinking(web), has_plan(web) and held == set(web.things))


def all_tuples(value):
    return isinstance(value, dict) and all(isinstance(knot, tuple) for knot in value.values())


class Paying(Case):
    def test_paying_bills(self):
        seen = set()
        for web in GOOD:
            exact = plain_exact(web)
            for group in list(subsets(web.things))[::1 if len(web) < 6 else 5]:
                many = plain_colours(web, group)
                most = max(len(set(knot) & set(group)) for knot in plain_greatest(web))
                bill = paying_bill(web, group)
                seen.add(bill is None)
                if most < many:
                    self.assertIsNone(bill)
                    self.assertFalse(exact)
                else:
                    self.assertEqual(bill.of(group), (many, 1))
                    self.assertTrue(plain_kept(web, bill))
                    self.assertEqual(bill, paying_bill(web, group))
        self.assertEqual(len(seen), 2)

    def test_each_group_pays_in_exact_webs_alone(self):
        for web in [web for web in GOOD if len(web) < 6]:
            paid = all(paying_bill(web, group) is not None for group in subsets(web.things))
            self.assertEqual(paid, is_exact(web))

    def test_the_empty_group(self):
        self.assertTrue(plain_kept(BRIDGE, paying_bill(BRIDGE, ())))


class Lifts(Case):
    def check(self, web, charge):
        paper = lift_paper(web, charge)
        self.assertEqual((type(paper), len(paper)), (tuple, 2))
        self.is_true(is_lift_paper(web, charge, paper))
        word, shown = paper
        if word == "lift":
            self.assertTrue(plain_lifts(web, charge, shown))
            self.assertTrue(plain_lifts(web, charge, lift(web, charge)))
        else:
            self.assertEqual(word, "pulls")
            self.assertTrue(plain_pulls(web, charge, shown))
            self.assertEqual(list(shown), sorted(shown))
            self.assertIsNone(lift(web, charge))
        self.assertLessEqual(longest(paper), longest(charge) + 20)
        self.assertEqual(lift_paper(web, charge), paper)
        return word

    def test_lift_papers(self):
        words = []
        for web in GOOD:
            for charge in charges_of(web, 4, len(web.conflicts)):
                words.append(self.check(web, charge))
        self.assertGreater(words.count("lift"), 200)
        self.assertGreater(words.count("pulls"), 200)

    def test_charges_below_kept_bills_are_lifted(self):
        for web in GOOD[::2]:
            for _, shares in some_mixings(web, 3, 3):
                bill = mix(web, shares)
                tiny = Charge({thing: int(thing == web.things[-1]) for thing in web}).times(1, LONGEST)
                self.assertEqual(lift(web, bill), bill)
                self.assertEqual(self.check(web, bill), "lift")
                self.assertEqual(self.check(web, bill - tiny), "lift")
                self.assertEqual(self.check(web, bill + tiny), "pulls")

    def test_small_charges_of_small_webs(self):
        for web in [web for web in small_webs(3)] + [ROW, sided_web(2, 2)]:
            knots = plain_greatest(web)
            for told in product((-1, 0, 1, 2), repeat=len(web)):
                word = self.check(web, Charge(dict(zip(web.things, told)), unit=2))
                if any(all(paid <= 2 * (thing in knot) for thing, paid in zip(web.things, told)) for knot in knots):
                    self.assertEqual(word, "lift")

    def test_long_integers(self):
        tiny = Charge({"a": 1, "b": 0, "c": -1, "d": 0, "e": 1, "f": 0})
        for charge in (LOW, LOW.times(1, LONGEST), LOW.times(LONGEST), LOW.times(LONGEST - 1, LONGEST),
                       LOW + tiny.times(1, LONGEST), LOW.times(1, 2) + tiny.times(1, LONGEST).times(1, LONGEST - 2),
                       LOW.times(-LONGEST), mix(BRIDGE, {("a", "b", "c"): LONGEST // 3, ("d", "e", "f"): 1})):
            self.check(BRIDGE, charge)
        web = sided_web(3, 3, 2)
        equal = mix(web, {knot: at + 10 ** 50 for at, knot in enumerate(plain_greatest(web))})
        self.assertEqual(self.check(web, equal), "lift")
        self.assertEqual(self.check(web, equal.times(LONGEST, LONGEST - 1)), "pulls")
        self.assertEqual(self.check(web, equal.times(LONGEST - 1, LONGEST)), "lift")

    def test_near_pulls(self):
        cases = [(BRIDGE, LOW, {"c": 1, "d": 1}), (ROW, knot_charge(ROW, ("a", "d")), {"a": 2, "d": 3}),
                 (ROW, Charge({"a": 1, "b": 2, "c": 1, "d": 1}, unit=2), {"a": 1, "b": 1, "c": 1, "d": 1})]
        items = [0, 1, 2, 3, 4, -1, True, None, "1", (1,), 10 ** 80]
        for web, charge, told in cases:
            seen = set()
            for near in near_dicts(told, list(web.things) + ["z", ("a",), None, 1, True], items):
                right = isinstance(near, dict) and plain_pulls(web, charge, near)
                self.assertIs(is_lift_paper(web, charge, ("pulls", near)), right, near)
                self.assertIs(is_wide_paper(web, ("low", charge, near)), right and plain_by_loose(web, charge), near)
                self.is_false(is_lift_paper(web, charge, ("lift", near)))
                seen.add(right)
            self.assertIn(False, seen)
            many = 10 ** 80
            self.assertIs(is_lift_paper(web, charge, ("pulls", {thing: told[thing] * many for thing in told})),
                          plain_pulls(web, charge, told))

    def test_pulls_that_are_just_not_enough(self):
        pulls = {"c": 1, "d": 1}
        half = LOW.times(1, 2)
        tiny = LOW.times(1, LONGEST).times(1, LONGEST)
        self.is_false(is_lift_paper(BRIDGE, half, ("pulls", pulls)))
        self.is_true(is_lift_paper(BRIDGE, half + tiny, ("pulls", pulls)))
        self.is_false(is_lift_paper(BRIDGE, half - tiny, ("pulls", pulls)))
        self.is_true(is_lift_paper(BRIDGE, half, ("lift", mix(BRIDGE, {("a", "b", "c"): 1, ("d", "e", "f"): 1}))))

    def test_lifts(self):
        low = Charge({"a": 1, "b": 1, "c": 0, "d": -3}, unit=4)
        tiny = Charge({"a": 1, "b": 0, "c": -1, "d": 0}).times(1, LONGEST).times(1, LONGEST)
        for bill in (Charge({"a": 1, "b": 2, "c": 1, "d": 0}, unit=2), Charge({"a": 1, "b": 4, "c": 3, "d": 0}, unit=4),
                     Charge({"a": 1, "b": 3, "c": 3, "d": 1}, unit=4), knot_charge(ROW, ("b", "c")), low,
                     knot_charge(ROW, ("a", "b")), knot_charge(ROW, ("a", "c")), knot_charge(ROW, ROW.things),
                     Charge({"a": 1, "b": 4, "c": 3, "d": 0}, unit=4) - tiny):
            self.assertIs(is_lift_paper(ROW, low, ("lift", bill)), plain_lifts(ROW, low, bill), str(bill))
        for value in OTHER_KINDS + [low.pays, low.cut(("a", "b")), Charge({"a": 1, "b": 1})]:
            self.is_false(is_lift_paper(ROW, low, ("lift", value)))

    def test_values_near_papers(self):
        items = OTHER_KINDS + ["lift", "pulls", LOW, {"c": 1, "d": 1}]
        right = ("pulls", {"c": 1, "d": 1})
        for near in near_tuples(right, items):
            self.assertIs(is_lift_paper(BRIDGE, LOW, near), near == right, near)
        bill = knot_charge(BRIDGE, ("a", "b", "c"))
        right = ("lift", bill)
        for near in near_tuples(right, items + [bill]):
            self.assertIs(is_lift_paper(BRIDGE, LOW.times(0), near), near == right, near)

    def test_values_of_other_kinds(self):
        for value in OTHER_KINDS + [["pulls", {"c": 1, "d": 1}], LOW, ({"c": 1, "d": 1},)]:
            self.is_false(is_lift_paper(BRIDGE, LOW, value))
            self.is_false(is_lift_paper(BRIDGE, LOW, ("lift", value)))
            self.is_false(is_lift_paper(BRIDGE, LOW, ("pulls", value)))


class Wide(Case):
    def test_wide_papers(self):
        words = set()
        for web in GOOD:
            right = plain_exact(web)
            self.assertIs(is_wide(web), right)
            paper = wide_paper(web)
            self.assertIs(type(paper), tuple)
            self.is_true(is_wide_paper(web, paper))
            if right:
                self.assertEqual(paper, ("wide", tuple(sorted(plain_full_knots(web)))))
            else:
                word, charge, pulls = paper
                self.assertEqual(word, "low")
                self.assertTrue(plain_by_loose(web, charge))
                self.assertTrue(plain_pulls(web, charge, pulls))
                self.assertIsNone(lift(web, charge))
                self.assertEqual(list(pulls), sorted(pulls))
            self.assertEqual(wide_paper(web), paper)
            words.add(paper[0])
        self.assertEqual(words, {"wide", "low"})

    def test_in_wide_webs_all_charges_within_are_lifted(self):
        for web in [web for web in GOOD if plain_exact(web)][::2]:
            for charge in charges_of(web, 6, 77):
                if plain_by_loose(web, charge):
                    self.assertTrue(plain_lifts(web, charge, lift(web, charge)))

    def test_just_one_form(self):
        for web in GOOD[::2]:
            knots = tuple(sorted(plain_full_knots(web)))
            self.assertIs(is_wide_paper(web, ("wide", knots)), plain_exact(web))
            self.is_false(is_wide_paper(web, ("wide", knots[1:])))
            self.is_false(is_wide_paper(web, ("wide", list(knots))))
            if len(knots) > 1:
                self.is_false(is_wide_paper(web, ("wide", knots[::-1])))
            if not plain_exact(web):
                self.is_false(is_wide_paper(web, ("wide", tuple(plain_greatest(web)))))
            for charge in charges_of(web, 2, 78):
                word, shown = lift_paper(web, charge)
                right = word == "pulls" and plain_by_loose(web, charge)
                self.assertIs(is_wide_paper(web, ("low", charge, shown)), right)

    def test_low_papers(self):
        pulls = {"c": 2, "d": 2}
        tiny = LOW.times(1, LONGEST)
        self.is_true(is_wide_paper(BRIDGE, ("low", LOW, pulls)))
        self.is_true(is_wide_paper(BRIDGE, ("low", LOW - tiny, pulls)))
        self.is_false(is_wide_paper(BRIDGE, ("low", LOW + tiny, pulls)))
        self.is_false(is_wide_paper(BRIDGE, ("low", LOW.times(1, 2), pulls)))
        self.is_false(is_wide_paper(BRIDGE, ("low", LOW, {})))
        self.is_false(is_wide_paper(BRIDGE, ("low", LOW, {"c": 1})))
        self.is_false(is_wide_paper(BRIDGE, ("low", LOW.pays, pulls)))

    def test_values_near_papers(self):
        items = OTHER_KINDS + ["low", "wide", LOW, {"c": 1, "d": 1}, (("a", "b"), ("b", "c"), ("c", "d"))]
        right = ("low", LOW, {"c": 1, "d": 1})
        for near in near_tuples(right, items):
            self.assertIs(is_wide_paper(BRIDGE, near), near == right, near)
        right = ("wide", (("a", "b"), ("b", "c"), ("c", "d")))
        for near in near_tuples(right, items):
            self.assertIs(is_wide_paper(ROW, near), near == right, near)

    def test_values_of_other_kinds(self):
        for value in OTHER_KINDS + [["low", LOW, {"c": 1, "d": 1}], LOW.pays, (LOW, {"c": 1, "d": 1})]:
            for web in (BRIDGE, ROW):
                self.is_false(is_wide_paper(web, value))
                self.is_false(is_wide_paper(web, ("wide", value)))
                self.is_false(is_wide_paper(web, ("low", value, {"c": 1, "d": 1})))
            self.is_false(is_wide_paper(BRIDGE, ("low", LOW, value)))


class Refusals(Case):
    def test_no_web(self):
        for value in [value for value in OTHER_KINDS if not isinstance(value, Web)] + [FIVE.things]:
            for call in (is_exact, exact_paper, is_wide, wide_paper):
                self.refuses(InvalidWeb, lambda: call(value))
            for call in (is_exact_paper, paying_bill, lift, lift_paper, is_wide_paper):
                self.refuses(InvalidWeb, lambda: call(value, None))
            self.refuses(InvalidWeb, lambda: is_lift_paper(value, None, None))

    def test_no_group(self):
        for value in OTHER_KINDS + [("b", "a"), ("z",), "a", ["a"], ("a", "a")]:
            for web in (BOND, FIVE):
                self.refuses(InvalidGroup, lambda: paying_bill(web, value))

    def test_no_charge(self):
        for value in OTHER_KINDS + [LOW.pays, LOW.cut(("a", "b")), (LOW,), str(LOW), BRIDGE]:
            for web in (BRIDGE, EIGHT):
                self.refuses(InvalidCharge, lambda: lift(web, value))
                self.refuses(InvalidCharge, lambda: lift_paper(web, value))
                self.refuses(InvalidCharge, lambda: is_lift_paper(web, value, None))

    def test_webs_that_are_not_good(self):
        for web, group in bad_webs():
            charge = knot_charge(web, ())
            for call in (is_wide, wide_paper):
                self.refuses(Spoiled, lambda: call(web), group)
            for call in (lift, lift_paper):
                self.refuses(Spoiled, lambda: call(web, charge), group)
            for value in (None, ("wide", tuple(plain_full_knots(web))), ("low", charge, {web.things[0]: 1}), True):
                self.refuses(Spoiled, lambda: is_wide_paper(web, value), group)
                self.refuses(Spoiled, lambda: is_lift_paper(web, charge, value), group)
            self.refuses(Spoiled, lambda: paying_bill(web, ()), group)
            self.refuses(Spoiled, lambda: paying_bill(web, group), group)
            self.is_false(is_exact(web))

    def test_arguments_are_left_as_they_were(self):
        pulls = {"d": 2, "c": 2}
        self.is_true(is_lift_paper(BRIDGE, LOW, ("pulls", pulls)))
        self.is_true(is_wide_paper(BRIDGE, ("low", LOW, pulls)))
        self.is_false(is_lift_paper(BRIDGE, LOW.times(1, LONG - 1), ("pulls", pulls)))
        self.assertEqual(list(pulls.items()), [("d", 2), ("c", 2)])
        for call, web in ((exact_paper, ROW), (lambda web: lift_paper(web, LOW), BRIDGE)):
            before = call(web)
            call(web)[1].clear()
            self.assertEqual(call(web), before)
        before = wide_paper(BRIDGE)
        wide_paper(BRIDGE)[2].clear()
        self.assertEqual(wide_paper(BRIDGE), before)
        self.is_true(is_kept(EMPTY_EIGHT, lift(EMPTY_EIGHT, Charge({thing: 0 for thing in EMPTY_EIGHT}))))
        self.assertEqual(Fraction(*lift(DOT, Charge({"x": -7}))["x"]), 1)


if __name__ == "__main__":
    unittest.main()
