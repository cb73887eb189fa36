"""Stage 14: steady webs [0.18] [14.1] [14.2] [14.3], and what [0.19] and [0.20] say of them."""

import random
import unittest
from fractions import Fraction
from itertools import product

from huebill.bills.charges import Charge, knot_charge
from huebill.bills.exact import is_exact
from huebill.bills.exists import has_kept, kept_bill
from huebill.bills.kept import is_kept
from huebill.bills.steady import (
    beating, does_beat, is_beaten, is_proposal, is_steady, is_steady_paper, steady_paper, unbeaten,
)
from huebill.errors import InvalidCharge, InvalidGroup, InvalidOperation, InvalidWeb, Spoiled
from huebill.webs.colours import is_enough
from huebill.webs.webs import Web
from tests.helper import (
    BOND, BRIDGE, DOT, EIGHT, EMPTY_EIGHT, FIVE, LONGEST, OTHER_KINDS, RINGS, ROW, Case, all_loose, bad_webs, charge_of,
    good_webs, longest, mix, near_dicts, near_tuples, plain_bill, plain_by_loose, plain_colours, plain_greatest,
    plain_kept, shares_of, sided_web, some_charges, some_mixings, subsets,
)

ASK = knot_charge(ROW, ("a", "c"))
CALM = Charge({"a": 1, "b": 2, "c": 1, "d": 0}, unit=2)
STEADY = {"a": ("a", "b"), "b": ("a", "b"), "c": ("b", "c"), "d": ("c", "d")}
GOOD = good_webs() + [sided_web(3, 3, 2)]


def held_things(web):
    """The things that lie in greatest knots."""
    return {thing for knot in plain_greatest(web) for thing in knot}


def plain_proposal(web, charge):
    return plain_bill(web, charge) and max(shares_of(charge).values()) <= 1


def plain_beats(web, bill, other, group):
    """Whether a kept bill beats a proposal through a group, as [14.1] says it."""
    paid, asked = shares_of(bill), shares_of(other)
    if not group or not all(paid[thing] < asked[thing] for thing in group):
        return False
    return sum(paid[thing] for thing in group) == plain_colours(web, group)


def plain_beaten(web, charge):
    """Whether some loose group of things that lie in greatest knots pays more than 1."""
    held, shares = held_things(web), shares_of(charge)
    return any(set(group) <= held and sum(shares[thing] for thing in group) > 1 for group in all_loose(web))


def drawn_proposals(web, times, seed):
    """Proposals of a web, also ones by which things pay less than 0, the same at each run."""
    luck = random.Random(seed)
    for _ in range(times):
        unit = luck.choice((1, 2, 3, 12))
        paid = {thing: unit for thing in web}
        left = (len(web) - plain_colours(web, web.things)) * unit
        while left > 0:
            part = luck.randint(1, left)
            paid[luck.choice(web.things)] -= part
            left -= part
        yield Charge(paid, unit=unit)


def proposals(web, times, seed):
    """Drawn proposals, kept bills, and ones that are a little off these."""
    yield from drawn_proposals(web, times, seed)
    tiny = Charge({thing: (at == 0) - (at == len(web) - 1) for at, thing in enumerate(web)}).times(1, LONGEST)
    for _, shares in some_mixings(web, times, seed):
        bill = mix(web, shares)
        yield bill
        for near in (bill + tiny, bill - tiny):
            if max(shares_of(near).values()) <= 1:
                yield near


class Proposals(Case):
    def test_proposals(self):
        seen = set()
        for web in GOOD[::2] + [FIVE, EIGHT, RINGS[4]]:
            cases = list(drawn_proposals(web, 4, 1)) + list(some_charges(web, 4, 2))
            cases += [charge + knot_charge(web, web.things[:1]).times(1, LONGEST) for charge in cases]
            for charge in cases + [knot_charge(web, group) for group in subsets(web.things[:5])]:
                right = plain_proposal(web, charge)
                self.assertIs(is_proposal(web, charge), right)
                seen.add(right)
        self.assertEqual(len(seen), 2)

    def test_values_near_proposals(self):
        less = Charge({"a": 1, "b": 1, "c": -3, "d": 3}, unit=2)
        self.is_true(is_proposal(ROW, Charge({"a": 2, "b": 2, "c": -2, "d": 2}, unit=2)))
        self.is_true(is_proposal(ROW, Charge({"a": 1, "b": 1, "c": -7, "d": 7}).times(1, 7)
                                 + Charge({"a": 6, "b": 6, "c": 0, "d": 0}, unit=7)))
        self.is_false(is_proposal(ROW, less))
        self.is_false(is_proposal(ROW, ASK.times(2)))
        self.is_false(is_proposal(ROW, ASK.times(LONGEST - 1, LONGEST)))
        tiny = Charge({"a": 1, "b": -1, "c": 0, "d": 0}).times(1, LONGEST)
        self.is_false(is_proposal(ROW, ASK + tiny))
        self.is_true(is_proposal(ROW, ASK - tiny))
        self.is_false(is_proposal(BOND, Charge({"a": 1, "b": 1})))

    def test_each_kept_bill_is_one_and_none_is_beaten(self):
        for web in GOOD[::2]:
            for _, shares in some_mixings(web, 3, 5):
                bill = mix(web, shares)
                self.is_true(is_proposal(web, bill))
                self.is_false(is_beaten(web, bill))
                self.assertIsNone(beating(web, bill))
        self.is_true(is_proposal(EIGHT, kept_bill(EIGHT)))

    def test_values_of_other_kinds(self):
        for value in OTHER_KINDS + [ASK.pays, (ASK,), [ASK], str(ASK), ROW, ASK.cut(("a", "b", "c"))]:
            self.is_false(is_proposal(ROW, value))
            self.is_false(is_proposal(FIVE, value))
            self.is_false(is_proposal(DOT, value))


class Beats(Case):
    def test_through_each_group(self):
        seen = []
        for web in [web for web in GOOD if len(web) < 6][::2] + [BRIDGE]:
            bills = [mix(web, shares) for _, shares in some_mixings(web, 3, 7)]
            for other in proposals(web, 2, 8):
                for bill in bills:
                    for group in subsets(web.things):
                        right = plain_beats(web, bill, other, group)
                        self.assertIs(does_beat(web, bill, other, group), right)
                        seen.append(right)
        self.assertGreater(seen.count(True), 50)
        self.assertGreater(seen.count(False), 1000)

    def test_the_empty_group(self):
        self.is_false(does_beat(ROW, CALM, ASK, ()))
        self.is_false(does_beat(DOT, knot_charge(DOT, ("x",)), knot_charge(DOT, ("x",)), ()))

    def test_near_ones(self):
        self.is_true(does_beat(ROW, CALM, ASK, ("a", "c")))
        for group in (("a",), ("c",), ("a", "d"), ("b",), ("a", "b", "c"), ROW.things):
            self.is_false(does_beat(ROW, CALM, ASK, group))
        # One who pays the same is not won.
        self.is_false(does_beat(ROW, knot_charge(ROW, ("a", "b")), ASK, ("a", "c")))
        tiny = Charge({"a": -1, "b": 1, "c": 0, "d": 0}).times(1, LONGEST)
        self.is_true(does_beat(ROW, mix(ROW, {("a", "b"): LONGEST - 1, ("b", "c"): 1}), ASK, ("a", "c")))
        # The things of the group pay less, but not all of its colours.
        self.is_false(does_beat(ROW, mix(ROW, {("a", "b"): 1, ("c", "d"): 2}), ASK + tiny, ("a",)))

    def test_through_greater_groups_and_then_through_loose_ones(self):
        web = sided_web(2, 2)
        ask = knot_charge(web, ("a", "b"))
        half = Charge({thing: 1 for thing in web}, unit=2)
        self.is_true(does_beat(web, half, ask, ("a", "b")))
        many = 0
        for web in [web for web in GOOD if len(web) < 7][::2]:
            for other in drawn_proposals(web, 3, 9):
                for _, shares in some_mixings(web, 2, 10):
                    bill = mix(web, shares)
                    through = [group for group in subsets(web.things) if plain_beats(web, bill, other, group)]
                    loose = [group for group in through if group in all_loose(web)]
                    self.assertEqual(len(through) > 0, len(loose) > 0)
                    many += len(through) - len(loose)
        # Groups that are not loose stand among them.
        self.assertGreater(many, 0)

    def test_in_webs_that_are_not_good(self):
        halves = kept_bill(EIGHT)
        ask = knot_charge(EIGHT, ("a", "b", "d", "e"))
        for group in subsets(EIGHT.things):
            self.assertIs(does_beat(EIGHT, halves, ask, group), plain_beats(EIGHT, halves, ask, group))
        self.is_true(does_beat(EIGHT, halves, ask, ("a", "d")))

    def test_refusals_in_their_order(self):
        for value in OTHER_KINDS + [ASK.pays, ASK.cut(("a",)), str(ASK)]:
            self.refuses(InvalidCharge, lambda: does_beat(ROW, value, None, None))
            self.refuses(InvalidCharge, lambda: does_beat(ROW, value, ASK, ("a", "c")))
            self.refuses(InvalidCharge, lambda: does_beat(ROW, ASK, value, None))
            self.refuses(InvalidCharge, lambda: does_beat(FIVE, value, None, None))
        for value in OTHER_KINDS + [("b", "a"), ("z",), "a", ["a"], ("a", "a")]:
            self.refuses(InvalidGroup, lambda: does_beat(ROW, ASK, ASK.times(2), value))
            self.refuses(InvalidGroup, lambda: does_beat(ROW, CALM, ASK, value))
        for group in ((), ("a", "c")):
            self.refuses(InvalidOperation, lambda: does_beat(ROW, ASK, ASK, group))
            self.refuses(InvalidOperation, lambda: does_beat(ROW, CALM, ASK.times(2), group))
            self.refuses(InvalidOperation, lambda: does_beat(ROW, CALM, ASK.times(1, 2), group))


class Beaten(Case):
    def check(self, web, other):
        right = plain_beaten(web, other)
        self.assertIs(is_beaten(web, other), right)
        found = beating(web, other)
        if not right:
            self.assertIsNone(found)
            return False
        self.assertEqual((type(found), len(found)), (tuple, 2))
        bill, group = found
        self.assertTrue(plain_kept(web, bill))
        self.assertTrue(plain_beats(web, bill, other, group))
        self.is_true(does_beat(web, bill, other, group))
        self.assertLessEqual(longest(found), longest(other) + 20)
        self.assertEqual(beating(web, other), found)
        return True

    def test_against_all_loose_groups(self):
        words = []
        for web in GOOD:
            for other in proposals(web, 3, len(web)):
                words.append(self.check(web, other))
        self.assertGreater(words.count(True), 200)
        self.assertGreater(words.count(False), 200)

    def test_no_drawn_kept_bill_beats_what_is_not_beaten(self):
        for web in [web for web in GOOD if len(web) < 6]:
            bills = [mix(web, shares) for _, shares in some_mixings(web, 5, 11)]
            bills += [knot_charge(web, knot) for knot in plain_greatest(web)]
            for other in proposals(web, 2, 12):
                beats = any(plain_beats(web, bill, other, group) for bill in bills for group in all_loose(web))
                self.assertLessEqual(beats, is_beaten(web, other))

    def test_all_proposals_in_halves_of_small_webs(self):
        for web in (BOND, ROW, ~ROW, sided_web(2, 1), Web(tuple("abc"), ()), Web(tuple("abcd"), (("a", "b"),))):
            for told in product((-2, -1, 0, 1, 2), repeat=len(web)):
                other = Charge(dict(zip(web.things, told)), unit=2)
                if plain_proposal(web, other):
                    self.check(web, other)

    def test_things_that_pay_less_than_0(self):
        for other in (Charge({"a": 1, "b": 1, "c": 1, "d": -1}), Charge({"a": 1, "b": -1, "c": 1, "d": 1}),
                      Charge({"a": 3, "b": 2, "c": 3, "d": -2}, unit=3)):
            self.is_true(self.check(ROW, other))
        web = Web(tuple("abcd"), ())
        self.is_true(self.check(web, Charge({"a": 1, "b": 1, "c": -9, "d": 8}).mixed(
            Charge({"a": 1, "b": 0, "c": 0, "d": 0}), 1, 8)))

    def test_long_integers(self):
        tiny = Charge({"a": 1, "b": -1, "c": 1, "d": -1}).times(1, LONGEST)
        half = Charge({thing: 1 for thing in ROW}, unit=2)
        self.is_true(self.check(ROW, half + tiny))
        self.is_true(self.check(ROW, half + tiny.times(1, LONGEST)))
        self.is_true(self.check(ROW, half - tiny.times(1, LONGEST)))
        self.is_false(self.check(ROW, half))
        self.is_false(self.check(BOND, Charge({"a": 1, "b": LONGEST, "c": LONGEST - 1}, unit=LONGEST)))

    def test_not_kept_and_not_beaten(self):
        """Not each bill that is not kept is beaten by a kept one [0.20]."""
        half = Charge({"a": 1, "b": 1, "c": 2}, unit=2)
        self.is_true(is_proposal(BOND, half))
        self.is_false(is_kept(BOND, half))
        self.is_false(is_beaten(BOND, half))

    def test_refusals_in_their_order(self):
        for call in (is_beaten, beating):
            for value in OTHER_KINDS + [ASK.pays, str(ASK), ROW]:
                self.refuses(InvalidCharge, lambda: call(ROW, value))
                self.refuses(InvalidCharge, lambda: call(FIVE, value))
            for web in (ROW, FIVE, EIGHT):
                many = plain_colours(web, web.things)
                for other in (knot_charge(web, ()), knot_charge(web, web.things[:1]).times(many),
                              knot_charge(web, web.things[:many]) + knot_charge(web, web.things[:1]).times(1, 9)):
                    self.refuses(InvalidOperation, lambda: call(web, other))


class Steady(Case):
    def test_papers(self):
        words = set()
        for web in GOOD:
            right = held_things(web) == set(web.things)
            self.assertIs(is_steady(web), right)
            paper = steady_paper(web)
            self.assertEqual((type(paper), len(paper)), (tuple, 2))
            self.is_true(is_steady_paper(web, paper))
            word, shown = paper
            if right:
                self.assertEqual((word, list(shown)), ("steady", list(web.things)))
                self.assertTrue(all(thing in knot and knot in plain_greatest(web) for thing, knot in shown.items()))
            else:
                self.assertEqual(word, "left")
                self.assertIn(shown, set(web.things) - held_things(web))
            self.assertEqual(steady_paper(web), paper)
            words.add(word)
        self.assertEqual(words, {"steady", "left"})

    def test_unbeaten_proposals(self):
        for web in GOOD:
            found = unbeaten(web)
            if held_things(web) == set(web.things):
                self.assertIsNone(found)
                for other in proposals(web, 2, 13):
                    self.assertTrue(plain_by_loose(web, other) or plain_beaten(web, other))
            else:
                self.assertTrue(plain_proposal(web, found))
                self.assertFalse(plain_by_loose(web, found))
                self.assertFalse(plain_beaten(web, found))
                self.is_false(is_beaten(web, found))

    def test_the_proposal_of_the_document(self):
        """A half each for a thing in no greatest knot and for one of a greatest knot, 1 for the others of it."""
        for web in GOOD:
            knot = plain_greatest(web)[0]
            for left in set(web.things) - held_things(web):
                for one in knot:
                    told = {thing: Fraction(int(thing in knot)) for thing in web}
                    told[one] = told[left] = Fraction(1, 2)
                    other = charge_of(told)
                    self.is_true(is_proposal(web, other))
                    self.is_false(is_kept(web, other))
                    self.is_false(is_beaten(web, other))

    def test_just_one_form(self):
        for web in GOOD:
            held = held_things(web)
            for thing in web.things:
                self.assertIs(is_steady_paper(web, ("left", thing)), thing not in held)
            knots = {thing: max(plain_greatest(web), key=lambda knot: thing in knot) for thing in web.things}
            self.assertIs(is_steady_paper(web, ("steady", knots)), held == set(web.things))
            self.is_false(is_steady_paper(web, ("left", "zz")))
            self.is_false(is_steady_paper(web, ("left", (web.things[0],))))

    def test_near_dicts(self):
        for web, told in ((ROW, STEADY), (DOT, {"x": ("x",)}), (BRIDGE, steady_paper(BRIDGE)[1])):
            items = list(subsets(web.things))[:22] + [("b", "a"), ("z",), "a", ["a", "b"], None, 1, True, {}]
            seen = set()
            for near in near_dicts(told, ["z", "", ("a",), None, 1, True], items):
                right = isinstance(near, dict) and set(near) == set(web.things) and all(
                    isinstance(knot, tuple) and knot in plain_greatest(web) and thing in knot
                    for thing, knot in near.items())
                self.assertIs(is_steady_paper(web, ("steady", near)), right, near)
                self.is_false(is_steady_paper(web, ("left", near)))
                seen.add(right)
            self.assertIn(False, seen)
            self.is_true(is_steady_paper(web, ("steady", dict(list(told.items())[::-1]))))
        self.is_true(is_steady_paper(ROW, ("steady", {**STEADY, "b": ("b", "c")})))

    def test_values_near_papers(self):
        items = OTHER_KINDS + ["left", "steady", "a", "b", STEADY]
        for web, right in ((BOND, ("left", "a")), (ROW, ("steady", STEADY))):
            for near in near_tuples(right, items):
                self.assertIs(is_steady_paper(web, near), near == right, near)

    def test_values_of_other_kinds(self):
        self.is_false(is_steady_paper(ROW, STEADY))
        for value in OTHER_KINDS + [["steady", STEADY], ROW, ASK]:
            for web in (BOND, ROW, DOT):
                self.is_false(is_steady_paper(web, value))
                self.is_false(is_steady_paper(web, ("steady", value)))
                self.is_false(is_steady_paper(web, ("left", value)))

    def test_what_the_main_statements_say(self):
        for web in GOOD:
            if is_exact(web):
                self.is_true(is_steady(web))
            self.assertEqual([is_enough(web), has_kept(web)], [True, True])
        self.assertEqual([is_steady(BRIDGE), is_exact(BRIDGE)], [True, False])

    def test_arguments_are_left_as_they_were(self):
        told = dict(list(STEADY.items())[::-1])
        self.is_true(is_steady_paper(ROW, ("steady", told)))
        self.assertEqual(list(told.items()), list(STEADY.items())[::-1])
        steady_paper(ROW)[1].clear()
        self.assertEqual(len(steady_paper(ROW)[1]), 4)


class Refusals(Case):
    def test_no_web(self):
        for value in [value for value in OTHER_KINDS if not isinstance(value, Web)] + [FIVE.things]:
            for call in (is_steady, unbeaten, steady_paper):
                self.refuses(InvalidWeb, lambda: call(value))
            for call in (is_proposal, is_beaten, beating, is_steady_paper):
                self.refuses(InvalidWeb, lambda: call(value, None))
            self.refuses(InvalidWeb, lambda: does_beat(value, None, None, None))

    def test_webs_that_are_not_good(self):
        for web, group in bad_webs():
            proposal = next(drawn_proposals(web, 1, 14))
            for call in (is_steady, unbeaten, steady_paper):
                self.refuses(Spoiled, lambda: call(web), group)
            for call in (is_beaten, beating):
                self.refuses(Spoiled, lambda: call(web, proposal), group)
                self.refuses(InvalidOperation, lambda: call(web, knot_charge(web, ())))
                self.refuses(InvalidCharge, lambda: call(web, None))
            for value in (None, ("left", web.things[0]), ("steady", {}), proposal):
                self.refuses(Spoiled, lambda: is_steady_paper(web, value), group)
            self.is_true(is_proposal(web, proposal))
        self.is_false(is_beaten(EMPTY_EIGHT, knot_charge(EMPTY_EIGHT, ("a",))))


if __name__ == "__main__":
    unittest.main()
