"""Stage 5: kept bills and objections [0.9] [0.13] [0.14] [5.1]."""

import unittest
from fractions import Fraction
from itertools import product

from huebill.bills.charges import Charge, knot_charge
from huebill.bills.kept import excess, gain, is_bill, is_kept, is_within, objection, objections, worst
from huebill.errors import InvalidCharge, InvalidGroup, InvalidWeb, UnknownName
from huebill.webs.webs import Web
from tests.helper import (
    BOND, DOT, EIGHT, FIVE, LONGEST, OTHER_KINDS, RINGS, ROW, Case, all_knots, all_loose, big_webs, pair_of, plain_bill,
    plain_colours, plain_excess, plain_within, shares_of, small_webs, some_charges, some_webs, subsets,
)

FAIR = Charge({"a": 0, "b": 1, "c": 1})


def cases():
    """Webs with some of their charges."""
    for web in list(small_webs(3)) + list(some_webs(4, 20, 11)) + list(some_webs(5, 10, 12)) + [FIVE]:
        for charge in some_charges(web, 8, len(web)):
            yield web, charge
        for knot in all_knots(web)[:4]:
            yield web, knot_charge(web, knot)
    for web in RINGS[3:] + [EIGHT]:
        yield web, Charge({thing: 1 for thing in web}, unit=2)


def near_charges(charge):
    """The charge, and those by which one thing pays a little more or less, or one pays for another."""
    yield charge
    for thing in charge:
        little = Charge({other: int(other == thing) for other in charge}).times(1, 10 ** 9)
        yield charge + little
        yield charge - little
        for other in charge:
            yield charge + Charge({one: (one == thing) - (one == other) for one in charge}).times(1, 6)


class Looks(Case):
    def test_excess(self):
        for web, charge in cases():
            for group in list(subsets(web.things))[:40]:
                self.assertEqual(excess(web, charge, group), pair_of(plain_excess(web, charge, group)))
            self.assertEqual(excess(web, charge, ()), (0, 1))

    def test_judged_charges(self):
        seen = set()
        for web, charge in cases():
            within, bill = plain_within(web, charge), plain_bill(web, charge)
            self.assertIs(is_within(web, charge), within)
            self.assertIs(is_bill(web, charge), bill)
            self.assertIs(is_kept(web, charge), within and bill)
            seen.add((within, bill))
        self.assertEqual(len(seen), 4)

    def test_nearly_kept(self):
        for web, charge in ((BOND, FAIR), (ROW, knot_charge(ROW, ("b", "c"))), (DOT, Charge({"x": 1}))):
            self.is_true(is_kept(web, charge))
            for near in near_charges(charge):
                within, bill = plain_within(web, near), plain_bill(web, near)
                self.assertEqual([is_within(web, near), is_bill(web, near), is_kept(web, near)],
                                 [within, bill, within and bill])

    def test_objections(self):
        for web, charge in cases():
            shares = shares_of(charge)
            over = [group for group in all_loose(web) if sum(shares[thing] for thing in group) > 1]
            self.assertEqual(objections(web, charge), tuple(sorted(over)))
            found = objection(web, charge)
            if over:
                self.assertGreater(plain_excess(web, charge, found), 0)
            else:
                self.assertIsNone(found)
                self.assertTrue(plain_within(web, charge))

    def test_worst(self):
        for web, charge in cases():
            looked = [(-plain_excess(web, charge, group), len(group), group) for group in subsets(web.things)]
            least, _, group = min(looked)
            self.assertEqual(worst(web, charge), (pair_of(-least), group))

    def test_gain(self):
        for web, charge in cases():
            shares = shares_of(charge)
            for thing in web:
                others = tuple(other for other in web if other != thing)
                told = plain_colours(web, web.things) - plain_colours(web, others) - shares[thing]
                self.assertEqual(gain(web, charge, thing), pair_of(told))
                if is_kept(web, charge):
                    self.assertLessEqual(told, 0)

    def test_integers_of_any_size(self):
        tiny = Charge({"a": 0, "b": 0, "c": 1}).times(1, LONGEST).times(1, LONGEST)
        self.is_true(is_within(BOND, FAIR - tiny))
        self.is_false(is_within(BOND, FAIR + tiny))
        self.is_false(is_bill(BOND, FAIR - tiny))
        self.assertEqual(excess(BOND, FAIR + tiny, ("c",)), (1, LONGEST ** 2))
        self.assertEqual(worst(BOND, FAIR + tiny), ((1, LONGEST ** 2), ("c",)))
        self.assertEqual(gain(BOND, FAIR + tiny, "a"), (0, 1))


class Statements(Case):
    def test_whole_numbers(self):
        """The last sentence of [0.14], and [0.13]: a kept bill gives each thing something from 0 to 1."""
        for web in small_webs(4):
            many = plain_colours(web, web.things)
            right = [knot for knot in all_knots(web) if len(knot) == many]
            for told in product((-1, 0, 1, 2), repeat=len(web)):
                charge = Charge(dict(zip(web.things, told)))
                payers = tuple(thing for thing, paid in zip(web.things, told) if paid == 1)
                self.assertIs(is_kept(web, charge), set(told) <= {0, 1} and payers in right)

    def test_kept_bills_give_from_0_to_1(self):
        many = 0
        for web in small_webs(4):
            for told in product((-1, 0, 1, 2, 3), repeat=len(web)):
                charge = Charge(dict(zip(web.things, told)), unit=2)
                if is_kept(web, charge):
                    many += 1
                    self.assertTrue(all(0 <= Fraction(*charge[thing]) <= 1 for thing in web))
        self.assertGreater(many, 100)

    def test_within_by_loose_groups_alone(self):
        for web in big_webs():
            for charge in some_charges(web, 2, 3):
                shares = shares_of(charge)
                loose = all(sum(shares[thing] for thing in group) <= 1 for group in all_loose(web))
                self.assertIs(is_within(web, charge), loose)
                if len(web) < 8:
                    self.assertEqual(loose, plain_within(web, charge))


class Refusals(Case):
    def test_no_web(self):
        for value in [value for value in OTHER_KINDS if not isinstance(value, Web)]:
            for call in (is_within, is_bill, is_kept, objection, objections, worst):
                self.refuses(InvalidWeb, lambda: call(value, FAIR))
                self.refuses(InvalidWeb, lambda: call(value, None))
            self.refuses(InvalidWeb, lambda: excess(value, None, None))
            self.refuses(InvalidWeb, lambda: gain(value, None, None))

    def test_no_charge(self):
        others = [Charge({"a": 0, "b": 1}), Charge({"a": 0, "b": 1, "d": 1}), {"a": 0, "b": 1, "c": 1}, FAIR.pays,
                  str(FAIR), Charge({"a": 0, "b": 1, "c": 1, "d": 0}), (FAIR,), [FAIR], ("a", "b", "c"), BOND]
        for value in OTHER_KINDS + others:
            for call in (objection, objections, worst):
                self.refuses(InvalidCharge, lambda: call(BOND, value))
            self.refuses(InvalidCharge, lambda: excess(BOND, value, None))
            self.refuses(InvalidCharge, lambda: gain(BOND, value, "z"))
            for judge in (is_within, is_bill, is_kept):
                self.is_false(judge(BOND, value))

    def test_no_group_and_no_thing(self):
        for value in OTHER_KINDS + [("b", "a"), ("z",), "a", ["a"], ("a", "a")]:
            self.refuses(InvalidGroup, lambda: excess(BOND, FAIR, value))
        for value in OTHER_KINDS + ["d", ("a",)]:
            self.refuses(UnknownName, lambda: gain(BOND, FAIR, value), value)


if __name__ == "__main__":
    unittest.main()
