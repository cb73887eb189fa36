"""Stage 6: whether there are kept bills [0.6] [0.13] [6.1] [6.2]."""

import unittest
from fractions import Fraction

from huebill.bills.charges import Charge, knot_charge
from huebill.bills.exists import (
    has_kept, is_kept_paper, is_parts_paper, is_scale, kept_bill, kept_paper, parts_number, parts_paper, scale_total,
)
from huebill.errors import InvalidOperation, InvalidWeb
from huebill.webs.webs import Web
from tests.helper import (
    BOND, DOT, EIGHT, EMPTY_EIGHT, FIVE, LONG, OTHER_KINDS, RINGS, ROW, Case, big_webs, longest, near_tuples, pair_of,
    plain_bill, plain_by_loose, plain_colours, plain_scale, shares_of, small_webs, some_webs, subsets,
)

TWO = (2, {("a", "c"): 1, ("a", "d"): 1, ("b", "d"): 1, ("b", "e"): 1, ("c", "e"): 1})
HALVES = Charge({thing: 1 for thing in FIVE}, unit=2)


def webs():
    return list(small_webs(4)) + list(some_webs(5, 60, 21)) + list(big_webs())


def plain_total(scale):
    return Fraction(sum(scale[1].values()), scale[0])


def near_scales(scale):
    """Values near a scale, right ones and wrong ones, all of them pairs of something and a dict."""
    unit, weights = scale
    for other in (unit - 1, unit + 1, 0, -1, True, None, str(unit), 10 ** 80):
        yield other, weights
    yield unit * 10 ** 80, {group: weight * 10 ** 80 for group, weight in weights.items()}
    yield unit, {}
    for group in weights:
        yield unit, {other: weight for other, weight in weights.items() if other != group}
        for weight in (weights[group] + 1, weights[group] - 1, 0, -1, True, None, "1", (1,), 10 ** 80):
            yield unit, {**weights, group: weight}
    for group in [(), ("a",), ("a", "b"), ("c", "a"), ("a", "a"), ("z",), "a", 1, None, True, (("a",),), ("a", 1)]:
        yield unit, {**weights, group: 1}


class Scales(Case):
    def test_near_scales(self):
        for web, scale in ((FIVE, TWO), (BOND, (1, {("a", "b"): 1, ("c",): 1})), (DOT, (3, {("x",): 4}))):
            self.is_true(is_scale(web, scale))
            seen = set()
            for value in near_scales(scale):
                right = plain_scale(web, value)
                self.assertIs(is_scale(web, value), right, value)
                if right:
                    self.assertEqual(scale_total(web, value), pair_of(plain_total(value)))
                else:
                    self.refuses(InvalidOperation, lambda: scale_total(web, value))
                seen.add(right)
            self.assertEqual(len(seen), 2)

    def test_another_form(self):
        rows = tuple(TWO[1].items())
        wrong = [list(TWO), TWO[::-1], TWO + (1,), TWO[:1], (2, list(TWO[1])), (2, rows), TWO[1], (TWO,)]
        for value in OTHER_KINDS + wrong:
            self.is_false(is_scale(FIVE, value))
            self.refuses(InvalidOperation, lambda: scale_total(FIVE, value))

    def test_totals(self):
        self.assertEqual(scale_total(FIVE, TWO), (5, 2))
        self.assertEqual(scale_total(FIVE, (1, TWO[1])), (5, 1))
        self.assertEqual(scale_total(DOT, (LONG ** 2, {("x",): LONG ** 2 + 1})), (LONG ** 2 + 1, LONG ** 2))
        self.assertEqual(scale_total(EMPTY_EIGHT, (1, {tuple("abcdefgh"): 1})), (1, 1))

    def test_no_charge_within_is_above_a_scale(self):
        for web in webs():
            charge, scale = parts_paper(web)[1:]
            self.assertLessEqual(Fraction(*charge.total), plain_total(scale))


class Papers(Case):
    def test_parts_papers(self):
        for web in webs():
            paper = parts_paper(web)
            word, charge, scale = paper
            self.assertEqual((type(paper), word), (tuple, "parts"))
            self.assertTrue(plain_by_loose(web, charge))
            self.assertTrue(plain_scale(web, scale))
            self.assertEqual(list(scale[1]), sorted(scale[1]))
            self.assertEqual(charge.things, web.things)
            self.assertEqual(sum(shares_of(charge).values()), plain_total(scale))
            self.assertEqual(parts_number(web), pair_of(plain_total(scale)))
            self.assertLessEqual(plain_total(scale), plain_colours(web, web.things))
            self.assertLessEqual(longest(paper), 20)
            self.is_true(is_parts_paper(web, paper))
            self.is_true(is_scale(web, scale))

    def test_kept_papers(self):
        forms = set()
        for web in webs():
            paper = kept_paper(web)
            word, shown = paper
            self.assertIs(type(paper), tuple)
            self.assertEqual(word == "kept", Fraction(*parts_number(web)) == plain_colours(web, web.things))
            self.assertIs(has_kept(web), word == "kept")
            if word == "kept":
                self.check_kept(web, shown)
                self.check_kept(web, kept_bill(web))
            else:
                self.assertEqual(word, "scale")
                self.assertTrue(plain_scale(web, shown))
                self.assertLess(plain_total(shown), plain_colours(web, web.things))
                self.assertIsNone(kept_bill(web))
            self.assertLessEqual(longest(paper), 20)
            self.is_true(is_kept_paper(web, paper))
            forms.add(word)
        self.assertEqual(forms, {"kept", "scale"})

    def check_kept(self, web, charge):
        self.assertTrue(plain_by_loose(web, charge))
        self.assertTrue(plain_bill(web, charge))
        self.assertTrue(all(0 <= share <= 1 for share in shares_of(charge).values()))

    def test_known_numbers(self):
        told = [parts_number(ring) for ring in RINGS]
        self.assertEqual(told, [(3, 1), (2, 1), (5, 2), (2, 1), (7, 3), (2, 1)])
        self.assertEqual([parts_number(~ring) for ring in RINGS], [(1, 1), (2, 1), (5, 2), (3, 1), (7, 2), (4, 1)])
        self.assertEqual([has_kept(ring) for ring in RINGS], [True, True, False, True, False, True])
        self.assertEqual([parts_number(EIGHT.without(thing)) for thing in EIGHT], [(7, 2)] * 8)
        self.assertEqual([parts_number(EMPTY_EIGHT), parts_number(~EMPTY_EIGHT), parts_number(DOT)],
                         [(1, 1), (8, 1), (1, 1)])
        self.assertEqual(kept_bill(EIGHT), Charge({thing: 1 for thing in EIGHT}, unit=2))
        self.assertEqual(kept_bill(BOND), Charge({"a": 0, "b": 1, "c": 1}))
        self.assertEqual(kept_bill(DOT), Charge({"x": 1}))

    def test_just_one_form(self):
        knot = Charge({"a": 1, "b": 1, "c": 0, "d": 0})
        weak = (1, {("a", "c"): 1, ("b", "d"): 1})
        self.is_true(is_scale(ROW, weak))
        self.is_true(is_kept_paper(ROW, ("kept", knot)))
        self.is_false(is_kept_paper(ROW, ("scale", weak)))
        self.is_true(is_kept_paper(FIVE, ("scale", TWO)))
        self.is_false(is_kept_paper(FIVE, ("kept", HALVES)))
        self.is_false(is_kept_paper(FIVE, ("scale", (2, {**TWO[1], ("a",): 1}))))
        self.is_true(is_kept_paper(FIVE, ("scale", (200, {**{group: 100 for group in TWO[1]}, ("a",): 1}))))

    def test_judged_parts_papers(self):
        self.is_true(is_parts_paper(FIVE, ("parts", HALVES, TWO)))
        self.is_true(is_parts_paper(FIVE, ("parts", HALVES, (4, {group: 2 for group in TWO[1]}))))
        self.is_true(is_parts_paper(BOND, ("parts", Charge({"a": -1, "b": 1, "c": 1}).mixed(
            Charge({"a": 1, "b": 1, "c": 1}), 1, 2), (1, {("a", "b"): 1, ("a", "c"): 1}))))
        for value in near_scales(TWO):
            right = plain_scale(FIVE, value) and plain_total(value) == Fraction(5, 2)
            self.assertIs(is_parts_paper(FIVE, ("parts", HALVES, value)), right)
            low = plain_scale(FIVE, value) and plain_total(value) < 3
            self.assertIs(is_kept_paper(FIVE, ("scale", value)), low)
        for charge in (HALVES.times(2), HALVES.times(1, 2), HALVES.cut(("a", "b")), HALVES.pays, "x", None,
                       HALVES + Charge({"a": 1, "b": -1, "c": 0, "d": 0, "e": 0}).times(1, LONG - 1)):
            self.is_false(is_parts_paper(FIVE, ("parts", charge, TWO)))
            self.is_false(is_kept_paper(FIVE, ("kept", charge)))

    def test_judged_with_a_thing_that_pays_less_than_0(self):
        web = Web(("a", "b"), ())
        scale = (1, {("a", "b"): 1})
        self.is_true(is_parts_paper(web, ("parts", Charge({"a": 1, "b": 0}), scale)))
        self.is_false(is_parts_paper(web, ("parts", Charge({"a": 2, "b": -1}), scale)))
        self.is_false(is_kept_paper(web, ("kept", Charge({"a": 2, "b": -1}))))

    def test_values_near_papers(self):
        items = OTHER_KINDS + ["parts", "kept", "scale", "Parts", HALVES, TWO, ()]
        rights = [("parts", HALVES, TWO)]
        for value in near_tuples(rights[0], items):
            self.assertIs(is_parts_paper(FIVE, value), value in rights, value)
            self.is_false(is_kept_paper(FIVE, value) and value != ("scale", TWO), value)
        for value in near_tuples(("scale", TWO), items):
            self.assertIs(is_kept_paper(FIVE, value), value == ("scale", TWO), value)
        fair = Charge({"a": 0, "b": 1, "c": 1})
        for value in near_tuples(("kept", fair), items + [fair]):
            self.assertIs(is_kept_paper(BOND, value), value == ("kept", fair), value)
            self.is_false(is_parts_paper(BOND, value))

    def test_values_of_other_kinds(self):
        others = [HALVES, TWO, ["scale", TWO], ["parts", HALVES, TWO], ("scale", HALVES), ("kept", TWO)]
        for value in OTHER_KINDS + others:
            self.is_false(is_parts_paper(FIVE, value))
            self.is_false(is_kept_paper(FIVE, value))

    def test_every_kept_knot_is_a_paper(self):
        for web in small_webs(4):
            many = plain_colours(web, web.things)
            for group in subsets(web.things):
                charge = knot_charge(web, group)
                right = plain_by_loose(web, charge) and len(group) == many
                self.assertIs(is_kept_paper(web, ("kept", charge)), right)


class Refusals(Case):
    def test_no_web(self):
        for value in [value for value in OTHER_KINDS if not isinstance(value, Web)]:
            for call in (parts_number, parts_paper, has_kept, kept_bill, kept_paper):
                self.refuses(InvalidWeb, lambda: call(value))
            for call in (is_scale, scale_total, is_parts_paper, is_kept_paper):
                self.refuses(InvalidWeb, lambda: call(value, TWO))
                self.refuses(InvalidWeb, lambda: call(value, None))


if __name__ == "__main__":
    unittest.main()
