"""Stage 8: mixtures [0.10] [0.14] [8.1] [8.2] [8.3]."""

import unittest
from fractions import Fraction
from itertools import combinations_with_replacement

from huebill.bills.charges import Charge, knot_charge
from huebill.bills.exists import kept_bill
from huebill.bills.kept import is_kept
from huebill.bills.mixtures import (
    alike_at, always_pay, bill_with, fixing_group, freedom, is_fixing, is_mixing, is_mixing_of, mixing, mixing_charge,
    never_pay, pay_range,
)
from huebill.errors import InvalidCharge, InvalidGroup, InvalidNumber, InvalidOperation, InvalidWeb, Spoiled
from huebill.webs.webs import Web
from tests.helper import (
    BOND, BRIDGE, DOT, EIGHT, EMPTY_EIGHT, FIVE, LONG, LONGEST, OTHER_KINDS, RINGS, ROW, Case, bad_webs, charge_of,
    good_webs, longest, mix, mixed_shares, near_dicts, near_tuples, pair_of, plain_colours, plain_greatest, plain_kept,
    plain_spoiled, rank, shares_of, small_webs, some_mixings, some_webs, subsets,
)

FLAT = Charge({thing: 1 for thing in ROW}, unit=2)
# Things in three sides of three, three and two: the most greatest knots that eight things can have.
THREES = Web(tuple("abcdefgh"), tuple((one, other) for one in "abcdefgh" for other in "abcdefgh"
                                      if one < other and (ord(one) - 97) // 3 != (ord(other) - 97) // 3))
GOOD = good_webs() + [THREES]


def plain_mixing(web, value):
    """Whether a pair of anything and a dict is a mixing."""
    unit, shares = value
    if type(unit) is not int or not shares:
        return False
    if not all(knot in plain_greatest(web) and type(part) is int and part >= 1 for knot, part in shares.items()):
        return False
    return sum(shares.values()) == unit


def near_mixings(web, told):
    unit, shares = told
    knots = plain_greatest(web)
    keys = knots + [(), ("a",), ("b", "a"), "a", None, 1, True]
    for near in near_dicts(shares, keys, [0, 1, 2, -1, True, None, "1"]):
        for other in (unit, unit + 1, unit - 1, unit + 2):
            yield other, near
    for other in (0, -1, True, None, str(unit), (unit,), [unit], 10 ** 80):
        yield other, shares
    many = 10 ** 80
    yield unit * many, {knot: part * many for knot, part in shares.items()}
    yield unit * many + 1, {knot: part * many for knot, part in shares.items()}


def plain_fixing(web, group):
    """Whether a group is fixing: whether its things tell as much of the knots as all things do."""
    knots = plain_greatest(web)
    tables = [[[1] + [int(thing in knot) for thing in things] for knot in knots] for things in (group, web.things)]
    return rank(tables[0]) == rank(tables[1])


def bills_of_few_shares(web, most):
    """Kept bills by which so many equal shares fall to knots, as tuples of what is paid."""
    for many in range(1, most + 1):
        for chosen in combinations_with_replacement(plain_greatest(web), many):
            yield tuple(Fraction(sum(thing in knot for knot in chosen), many) for thing in web)


class Mixings(Case):
    def test_some_mixings(self):
        for web in GOOD:
            for value in some_mixings(web, 3, len(web)):
                self.is_true(is_mixing(web, value))
                charge = mixing_charge(web, value)
                self.assertEqual(charge, mix(web, value[1]))
                self.is_true(is_kept(web, charge))
                self.is_true(is_mixing_of(web, charge, value))
                doubled = (2 * value[0], {knot: 2 * part for knot, part in value[1].items()})
                self.is_true(is_mixing_of(web, charge, doubled))
                self.check_found(web, charge)

    def check_found(self, web, charge):
        found = mixing(web, charge)
        self.assertTrue(plain_mixing(web, found))
        self.assertIs(type(found), tuple)
        self.assertEqual(mixed_shares(web, found[1]), shares_of(charge))
        self.assertLessEqual(len(found[1]), len(web))
        self.assertEqual(list(found[1]), sorted(found[1]))
        self.is_true(is_mixing_of(web, charge, found))
        self.assertEqual(mixing(web, charge), found)
        self.assertLessEqual(longest(found), longest(charge) + 20)

    def test_a_mixing_for_each_kept_bill(self):
        for web in GOOD:
            self.check_found(web, kept_bill(web))
            for knot in plain_greatest(web):
                self.check_found(web, knot_charge(web, knot))
            equal = charge_of({thing: Fraction(plain_colours(web, web.things), len(web)) for thing in web})
            if plain_kept(web, equal):
                self.check_found(web, equal)

    def test_few_knots_of_many(self):
        knots = plain_greatest(THREES)
        self.assertEqual(len(knots), 18)
        for value in some_mixings(THREES, 40, 5):
            self.check_found(THREES, mix(THREES, value[1]))
        self.check_found(THREES, mix(THREES, {knot: 7 ** at for at, knot in enumerate(knots)}))
        self.is_true(is_mixing_of(THREES, mix(THREES, {knot: 1 for knot in knots}), (18, {knot: 1 for knot in knots})))

    def test_values_near_mixings(self):
        for web, told in ((ROW, (4, {("a", "b"): 2, ("c", "d"): 2})), (BOND, (1, {("b", "c"): 1})),
                          (DOT, (3, {("x",): 3})), (BRIDGE, (5, {("a", "b", "c"): 2, ("d", "e", "f"): 3}))):
            seen = set()
            for value in near_mixings(web, told):
                right = isinstance(value[1], dict) and plain_mixing(web, value)
                self.assertIs(is_mixing(web, value), right, value)
                if right:
                    self.assertEqual(mixing_charge(web, value), mix(web, value[1]))
                else:
                    self.refuses(InvalidOperation, lambda: mixing_charge(web, value))
                same = right and mix(web, value[1]) == mix(web, told[1])
                self.assertIs(is_mixing_of(web, mix(web, told[1]), value), same, value)
                seen.add(right)
            self.assertEqual(len(seen), 2)

    def test_a_mixing_of_another_charge(self):
        one, other = (1, {("a", "b"): 1}), (1, {("b", "c"): 1})
        self.is_true(is_mixing_of(ROW, knot_charge(ROW, ("a", "b")), one))
        self.is_false(is_mixing_of(ROW, knot_charge(ROW, ("a", "b")), other))
        self.is_false(is_mixing_of(ROW, knot_charge(ROW, ("a",)), one))
        for value in (one, other):
            self.is_false(is_mixing_of(ROW, FLAT.times(2), value))

    def test_other_kinds(self):
        right = (2, {("a", "b"): 1, ("c", "d"): 1})
        for value in OTHER_KINDS + [list(right), right[::-1], right[1], FLAT, (2, tuple(right[1].items()))]:
            self.is_false(is_mixing(ROW, value))
            self.is_false(is_mixing_of(ROW, FLAT, value))
            self.refuses(InvalidOperation, lambda: mixing_charge(ROW, value))
        for near in near_tuples(right, OTHER_KINDS):
            self.assertIs(is_mixing(ROW, near), near == right, near)

    def test_long_integers(self):
        parts = {("a", "b"): 1, ("b", "c"): LONGEST, ("c", "d"): LONG ** 3}
        value = (sum(parts.values()), parts)
        self.is_true(is_mixing(ROW, value))
        charge = mixing_charge(ROW, value)
        self.assertEqual(charge.pays, {"a": 1, "b": LONG, "c": LONGEST + LONG ** 3, "d": LONG ** 3})
        self.check_found(ROW, charge)
        equal = mixing_charge(THREES, (18 * LONG, {knot: LONG for knot in plain_greatest(THREES)}))
        self.check_found(THREES, equal)


class Ranges(Case):
    def test_ranges(self):
        for web in GOOD:
            knots = plain_greatest(web)
            for group in list(subsets(web.things))[::7]:
                held = [len(set(group) & set(knot)) for knot in knots]
                self.assertEqual(pay_range(web, group), (min(held), max(held)))
                for value in some_mixings(web, 1, 9):
                    paid = sum(shares_of(mix(web, value[1]))[thing] for thing in group)
                    self.assertTrue(min(held) <= paid <= max(held))

    def test_bills_with(self):
        for web in GOOD:
            for group in list(subsets(web.things))[::11]:
                least, most = pay_range(web, group)
                middle = (Fraction(least + most, 2), Fraction(2 * least + most, 3))
                for number in {Fraction(least), Fraction(most), *middle, least + Fraction(most - least, 10 ** 12 + 1)}:
                    charge = bill_with(web, group, number.numerator, number.denominator)
                    self.assertEqual(charge.of(group), pair_of(number))
                    self.assertTrue(plain_by_total(web, charge))
                    self.is_true(is_kept(web, charge))
                for number in (least - 1, most + 1, least - Fraction(1, 10 ** 12), most + Fraction(1, 10 ** 12)):
                    number = Fraction(number)
                    self.refuses(InvalidOperation,
                                 lambda: bill_with(web, group, number.numerator, number.denominator))

    def test_fractions_not_in_lowest_terms(self):
        self.assertEqual(bill_with(ROW, ("a",), 4, 8).of(("a",)), (1, 2))
        self.assertEqual(bill_with(ROW, ("a",), 0, 8).of(("a",)), (0, 1))
        self.assertEqual(bill_with(BRIDGE, ("a", "b"), LONGEST - 1, LONGEST).of(("a", "b")), (LONGEST - 1, LONGEST))
        charge = bill_with(BRIDGE, ("a", "b"), LONGEST - 2, LONGEST)
        self.assertTrue(plain_kept(BRIDGE, charge))
        self.assertLessEqual(longest(charge), 61)

    def test_wrong_numbers(self):
        for value in OTHER_KINDS:
            if type(value) is not int or abs(value) >= LONG:
                self.refuses(InvalidNumber, lambda: bill_with(ROW, (), value, None), value)
            if type(value) is not int or not 1 <= value < LONG:
                self.refuses(InvalidNumber, lambda: bill_with(ROW, (), 9, value), value)

    def test_who_never_and_who_always_pays(self):
        for web in GOOD:
            knots = plain_greatest(web)
            never, always = never_pay(web), always_pay(web)
            self.assertEqual(never, tuple(thing for thing in web if not any(thing in knot for knot in knots)))
            self.assertEqual(always, tuple(thing for thing in web if all(thing in knot for knot in knots)))
            self.assertEqual(never, tuple(thing for thing in web if pay_range(web, (thing,)) == (0, 0)))
            self.assertEqual(always, tuple(thing for thing in web if pay_range(web, (thing,)) == (1, 1)))


def plain_by_total(web, charge):
    return sum(shares_of(charge).values()) == plain_colours(web, web.things)


class Fixing(Case):
    def test_against_bills_of_few_shares(self):
        for web in list(small_webs(4)) + list(some_webs(5, 20, 6)):
            if plain_spoiled(web) is not None:
                continue
            bills = set(bills_of_few_shares(web, 3))
            for group in subsets(web.things):
                places = [web.things.index(thing) for thing in group]
                told = {tuple(bill[at] for at in places) for bill in bills}
                self.assertIs(is_fixing(web, group), len(told) == len(bills), (str(web), group))

    def test_all_groups(self):
        for web in GOOD:
            fixing = []
            for group in list(subsets(web.things))[::1 if len(web) < 6 else 11]:
                right = plain_fixing(web, group)
                self.assertIs(is_fixing(web, group), right)
                self.check_pair(web, group, right)
                if right:
                    fixing.append(group)
            self.assertIn(web.things, fixing + [web.things])

    def check_pair(self, web, group, right):
        pair = alike_at(web, group)
        if right:
            self.assertIsNone(pair)
            return
        self.assertIs(type(pair), tuple)
        one, other = pair
        self.assertNotEqual(one, other)
        self.assertEqual([one[thing] for thing in group], [other[thing] for thing in group])
        for charge in pair:
            self.assertTrue(plain_by_total(web, charge))
            self.is_true(is_kept(web, charge))
            self.assertLessEqual(longest(charge), 20)

    def test_first_fixing_groups(self):
        for web in GOOD:
            first = next(group for group in subsets(web.things) if plain_fixing(web, group))
            self.assertEqual(fixing_group(web), first)
            self.assertEqual(freedom(web), len(first))
            self.assertLess(freedom(web), len(web))
            self.assertLess(freedom(web), len(plain_greatest(web)))
            self.assertEqual(freedom(web) == 0, len(plain_greatest(web)) == 1)

    def test_least_fixing_groups_have_equally_many_things(self):
        for web in [web for web in GOOD if len(web) < 6] + [BRIDGE, RINGS[3]]:
            fixing = [group for group in subsets(web.things) if is_fixing(web, group)]
            least = [group for group in fixing
                     if not any(tuple(one for one in group if one != thing) in fixing for thing in group)]
            self.assertEqual({len(group) for group in least}, {freedom(web)})

    def test_known_groups(self):
        self.assertEqual([freedom(web) for web in (DOT, BOND, ROW, BRIDGE, EMPTY_EIGHT, ~EMPTY_EIGHT, THREES)],
                         [0, 0, 2, 1, 7, 0, 5])
        self.assertEqual(fixing_group(EMPTY_EIGHT), tuple("abcdefg"))
        self.assertEqual(fixing_group(BRIDGE), ("a",))
        self.is_false(is_fixing(ROW, ("b", "c")) and is_fixing(ROW, ("a", "c")))
        self.is_true(is_fixing(BOND, ()))
        self.is_false(is_fixing(BRIDGE, ()))


class Refusals(Case):
    def test_no_web(self):
        for value in [value for value in OTHER_KINDS if not isinstance(value, Web)] + [FIVE.things]:
            for call in (never_pay, always_pay, fixing_group, freedom):
                self.refuses(InvalidWeb, lambda: call(value))
            for call in (is_mixing, mixing_charge, mixing, pay_range, is_fixing, alike_at):
                self.refuses(InvalidWeb, lambda: call(value, None))
            self.refuses(InvalidWeb, lambda: is_mixing_of(value, None, None))
            self.refuses(InvalidWeb, lambda: bill_with(value, None, None, None))

    def test_no_group(self):
        for value in OTHER_KINDS + [("b", "a"), ("z",), "a", ["a"], ("a", "a")]:
            for web in (ROW, FIVE):
                for call in (pay_range, is_fixing, alike_at):
                    self.refuses(InvalidGroup, lambda: call(web, value))
                self.refuses(InvalidGroup, lambda: bill_with(web, value, None, None))

    def test_no_charge(self):
        others = [Charge({"a": 0, "b": 1}), FLAT.pays, (FLAT,), str(FLAT), ROW]
        for value in OTHER_KINDS + others:
            for web in (ROW, FIVE):
                self.refuses(InvalidCharge, lambda: mixing(web, value))
                self.refuses(InvalidCharge, lambda: is_mixing_of(web, value, None))

    def test_charges_that_are_not_kept(self):
        tiny = Charge({"a": 1, "b": -1, "c": 0, "d": 0}).times(1, LONGEST)
        for charge in (FLAT.times(2), FLAT.times(1, 2), FLAT + tiny, knot_charge(ROW, ("a", "c")), knot_charge(ROW, ()),
                       knot_charge(ROW, ("a", "d")), knot_charge(ROW, ROW.things)):
            self.refuses(InvalidOperation, lambda: mixing(ROW, charge))
            self.is_false(is_mixing_of(ROW, charge, (1, {("a", "b"): 1})))

    def test_webs_that_are_not_good(self):
        for web, group in bad_webs():
            knot = plain_greatest(web)[0]
            for call in (never_pay, always_pay, fixing_group, freedom):
                self.refuses(Spoiled, lambda: call(web), group)
            for call in (is_fixing, alike_at, pay_range):
                self.refuses(Spoiled, lambda: call(web, (web.things[1],)), group)
            for value in (None, (1, {knot: 1}), True):
                self.refuses(Spoiled, lambda: is_mixing(web, value), group)
                self.refuses(Spoiled, lambda: is_mixing_of(web, knot_charge(web, knot), value), group)
            self.refuses(Spoiled, lambda: mixing_charge(web, (1, {knot: 1})), group)
            self.refuses(Spoiled, lambda: bill_with(web, knot, len(knot), 1), group)
            self.refuses(Spoiled, lambda: bill_with(web, (), 0, 1), group)

    def test_before_a_web_that_is_not_good(self):
        self.refuses(InvalidOperation, lambda: mixing_charge(FIVE, (1, {("a",): 1})))
        self.refuses(InvalidOperation, lambda: mixing_charge(FIVE, None))
        self.refuses(InvalidOperation, lambda: mixing(FIVE, knot_charge(FIVE, ("a", "b"))))
        self.refuses(InvalidNumber, lambda: bill_with(FIVE, (), None, None), None)
        self.refuses(InvalidNumber, lambda: bill_with(FIVE, (), 0, 0), 0)
        self.refuses(InvalidOperation, lambda: bill_with(FIVE, (), 1, 1))
        self.refuses(InvalidOperation, lambda: bill_with(FIVE, FIVE.things, 3, 1))
        self.refuses(Spoiled, lambda: bill_with(FIVE, FIVE.things, 2, 1), FIVE.things)
        halves = Charge({thing: 1 for thing in EIGHT}, unit=2)
        self.refuses(Spoiled, lambda: mixing(EIGHT, halves), ("a", "b", "d", "e", "g"))
        self.refuses(InvalidOperation, lambda: mixing(EIGHT, halves.times(2)))


if __name__ == "__main__":
    unittest.main()
