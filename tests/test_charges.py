"""Stage 4: charges [0.9]."""

import random
import unittest
from fractions import Fraction
from itertools import permutations

from huebill.bills.charges import Charge, knot_charge
from huebill.errors import (
    InvalidCharge, InvalidGroup, InvalidNumber, InvalidOperation, InvalidWeb, TooMany, UnknownName,
)
from huebill.webs.webs import Web
from tests.helper import (
    BOND, DOT, EIGHT, LETTERS, LONG, LONGEST, NOT_NAMES, OTHER_KINDS, Case, charge_of, pair_of, shares_of, subsets,
)

HALF = Charge({"a": 2, "b": 2, "c": 4}, unit=4)
NOT_INTEGERS = [value for value in OTHER_KINDS if type(value) is not int or abs(value) > LONGEST]


def some_shares(seed, things="abc", times=40):
    luck = random.Random(seed)
    for _ in range(times):
        digits = luck.choice((1, 1, 2, 8))
        yield {thing: Fraction(luck.randint(-10 ** digits, 10 ** digits), luck.randint(1, 10 ** digits))
               for thing in things}


class Making(Case):
    def test_told_in_any_order_and_with_a_common_factor(self):
        for things in permutations("abc"):
            for factor in (1, 2, 3, 35, 10 ** 40):
                told = {thing: {"a": -3, "b": 0, "c": 4}[thing] * factor for thing in things}
                charge = Charge(told, unit=6 * factor)
                self.assertEqual(charge.things, ("a", "b", "c"))
                self.assertEqual((charge.unit, charge.pays), (6, {"a": -3, "b": 0, "c": 4}))
                self.assertEqual(list(charge.pays), ["a", "b", "c"])

    def test_least_unit(self):
        self.assertEqual((Charge({"a": 0, "b": 0}, unit=12).unit, Charge({"a": 0}).unit), (1, 1))
        self.assertEqual(Charge({"a": 6, "b": 9}, unit=12).pays, {"a": 2, "b": 3})
        self.assertEqual(Charge({"a": 6, "b": 9}, unit=12).unit, 4)
        self.assertEqual(Charge({"a": 6, "b": 9}).unit, 1)
        self.assertEqual(Charge({"a": 6, "b": 9}, unit=3).unit, 1)

    def test_fractions(self):
        for shares in some_shares(1):
            charge = charge_of(shares)
            self.assertEqual(shares_of(charge), shares)
            for thing in shares:
                self.assertEqual(charge[thing], pair_of(shares[thing]))
            self.assertEqual(charge.total, pair_of(sum(shares.values())))
            for group in subsets(("a", "b", "c")):
                self.assertEqual(charge.of(group), pair_of(sum((shares[thing] for thing in group), Fraction(0))))

    def test_one_thing_and_eight(self):
        self.assertEqual(str(Charge({"road": -4}, unit=6)), "road -2/3")
        self.assertEqual(len(Charge({thing: 1 for thing in LETTERS})), 8)
        self.assertEqual(Charge({"abcdefgh": LONGEST}, unit=LONGEST).pays, {"abcdefgh": 1})
        self.assertEqual(Charge({"a": -LONGEST})["a"], (-LONGEST, 1))

    def test_wrong_pays(self):
        for value in [value for value in OTHER_KINDS] + [{thing: 1 for thing in "abcdefghi"}, ("a", 1), [("a", 1)]]:
            self.refuses(InvalidCharge, lambda: Charge(value))
            self.refuses(InvalidCharge, lambda: Charge(value, unit=0))
        for value in NOT_INTEGERS:
            self.refuses(InvalidCharge, lambda: Charge({"a": 1, "b": value, "c": 1}))
        for key in (1, None, True, "", "A", "a b", "abcdefghi", ("a",), ()):
            self.refuses(InvalidCharge, lambda: Charge({"a": 1, key: 1}))

    def test_wrong_unit(self):
        for value in NOT_INTEGERS + [0, -1, -LONGEST]:
            self.refuses(InvalidNumber, lambda: Charge({"a": 1}, unit=value), value)
        with self.assertRaises(TypeError):
            Charge({"a": 1}, 2)


class Asking(Case):
    def test_things_that_are_none(self):
        for value in OTHER_KINDS + ["d", "aa", ("a",), 0, 1]:
            self.refuses(UnknownName, lambda: HALF[value], value)
            self.is_false(value in HALF)
        for thing in "abc":
            self.is_true(thing in HALF)

    def test_groups_that_are_none(self):
        for value in OTHER_KINDS + [("b", "a"), ("z",), "a", ["a"], ("a", "a")]:
            self.refuses(InvalidGroup, lambda: HALF.of(value))
            self.refuses(InvalidGroup, lambda: HALF.cut(value))
        self.assertEqual(HALF.of(()), (0, 1))
        self.refuses(InvalidOperation, lambda: HALF.cut(()))

    def test_len_and_iteration(self):
        self.assertEqual((len(HALF), list(HALF), list(Charge({"c": 1, "b": 1}))), (3, ["a", "b", "c"], ["b", "c"]))

    def test_equal(self):
        self.is_true(HALF == Charge({"c": 2, "a": 1, "b": 1}, unit=2))
        self.is_false(HALF != Charge({"c": 2, "a": 1, "b": 1}, unit=2))
        others = [HALF.times(2), HALF.cut(("a", "b")), HALF.pays, str(HALF), (2, HALF.pays),
                  Charge({"a": 1, "b": 1, "d": 2}, unit=2), Charge({"a": 1, "b": 1, "c": 2}),
                  Charge({"a": 1, "b": 1, "c": 1}, unit=2)]
        for value in OTHER_KINDS + others:
            self.is_false(HALF == value)
            self.is_true(HALF != value)
            self.is_false(value == HALF)

    def test_text(self):
        self.assertEqual(str(Charge({"c": -3, "b": 0, "a": 1}, unit=1)), "a 1, b 0, c -3")
        self.assertEqual(str(Charge({"c": -6, "b": 0, "a": 1}, unit=2)), "a 1/2, b 0, c -3")
        long = Charge({"a": 1}).times(1, LONGEST)
        for _ in range(80):
            long = long.times(1, LONGEST)
        self.assertEqual(str(long)[:10], "a 1/" + str(LONGEST ** 5)[:6])
        self.assertEqual(len(str(long)), len("a 1/") + 81 * 60)


class Counting(Case):
    def test_sums_and_differences(self):
        for one, other in zip(some_shares(2), some_shares(3)):
            left, right = charge_of(one), charge_of(other)
            self.assertEqual(shares_of(left + right), {thing: one[thing] + other[thing] for thing in one})
            self.assertEqual(shares_of(left - right), {thing: one[thing] - other[thing] for thing in one})
            self.assertEqual(left + right, charge_of({thing: one[thing] + other[thing] for thing in one}))
            self.assertEqual((shares_of(left), shares_of(right)), (one, other))

    def test_sums_that_cannot_be(self):
        for value in OTHER_KINDS + [HALF.cut(("a", "b")), Charge({"a": 1, "b": 1, "d": 1}), HALF.pays]:
            self.refuses(InvalidOperation, lambda: HALF + value)
            self.refuses(InvalidOperation, lambda: HALF - value)

    def test_times(self):
        for shares in some_shares(4):
            for numerator, denominator in ((0, 1), (1, 1), (-1, 3), (7, 2), (-6, 4), (LONGEST, 1), (1, LONGEST)):
                found = charge_of(shares).times(numerator, denominator)
                factor = Fraction(numerator, denominator)
                self.assertEqual(shares_of(found), {thing: shares[thing] * factor for thing in shares})
            self.assertEqual(charge_of(shares).times(3), charge_of(shares).times(3, 1))
        self.assertEqual(HALF.times(0).unit, 1)

    def test_times_refuses(self):
        for value in NOT_INTEGERS:
            self.refuses(InvalidNumber, lambda: HALF.times(value), value)
            self.refuses(InvalidNumber, lambda: HALF.times(value, "q"), value)
        for value in NOT_INTEGERS + [0, -1, -LONGEST]:
            self.refuses(InvalidNumber, lambda: HALF.times(1, value), value)

    def test_mixed(self):
        for one, other in zip(some_shares(5), some_shares(6)):
            for numerator, denominator in ((0, 1), (1, 1), (1, 3), (2, 4), (5, 5), (0, LONGEST), (7, LONGEST)):
                share = Fraction(numerator, denominator)
                found = charge_of(one).mixed(charge_of(other), numerator, denominator)
                self.assertEqual(
                    shares_of(found), {thing: one[thing] * share + other[thing] * (1 - share) for thing in one})

    def test_mixed_refuses(self):
        for value in OTHER_KINDS + [HALF.cut(("a", "b")), Charge({"a": 1, "b": 1, "d": 1}), HALF.pays]:
            self.refuses(InvalidCharge, lambda: HALF.mixed(value, None, None))
        for value in NOT_INTEGERS:
            self.refuses(InvalidNumber, lambda: HALF.mixed(HALF, value, "q"), value)
        for value in NOT_INTEGERS + [0, -1, -LONGEST]:
            self.refuses(InvalidNumber, lambda: HALF.mixed(HALF, 1, value), value)
            self.refuses(InvalidNumber, lambda: HALF.mixed(HALF, -7, value), value)
        for value in (-1, 4, LONGEST, -LONGEST):
            self.refuses(InvalidNumber, lambda: HALF.mixed(HALF, value, 3), value)

    def test_cut(self):
        for shares in some_shares(7):
            for group in subsets(("a", "b", "c")):
                if group:
                    found = charge_of(shares).cut(group)
                    self.assertEqual(found.things, group)
                    self.assertEqual(shares_of(found), {thing: shares[thing] for thing in group})
        self.assertEqual((HALF.cut(("c",)).unit, HALF.cut(("a", "b", "c"))), (1, HALF))

    def test_put_beside(self):
        for one, other in zip(some_shares(8, "ace"), some_shares(9, "bdfgh")):
            found = charge_of(one).put_beside(charge_of(other))
            self.assertEqual(found.things, LETTERS)
            self.assertEqual(shares_of(found), {**one, **other})
            self.assertEqual(found, charge_of(other).put_beside(charge_of(one)))

    def test_put_beside_refuses(self):
        for value in OTHER_KINDS + [BOND, HALF.pays]:
            if not isinstance(value, Charge):
                self.refuses(InvalidCharge, lambda: HALF.put_beside(value))
        eight = Charge({thing: 1 for thing in LETTERS})
        self.refuses(InvalidOperation, lambda: HALF.put_beside(HALF))
        self.refuses(InvalidOperation, lambda: HALF.put_beside(Charge({"x": 1, "c": 1})))
        self.refuses(InvalidOperation, lambda: HALF.put_beside(eight))
        self.refuses(TooMany, lambda: eight.put_beside(Charge({"x": 1})), 8)
        self.refuses(TooMany, lambda: HALF.put_beside(Charge({thing: 1 for thing in "stuvwx"})), 8)
        self.assertEqual(len(HALF.put_beside(Charge({thing: 1 for thing in "stuvw"}))), 8)

    def test_longer_integers_than_may_be_passed(self):
        big = Charge({"a": LONGEST, "b": -1}, unit=7)
        long = big.times(LONGEST).times(LONGEST)
        share = Fraction(LONGEST, 7) * LONGEST * LONGEST
        self.assertEqual((long["a"], long.of(("a",)), long.cut(("a",)).total), (pair_of(share),) * 3)
        self.assertEqual((long + long)["a"], pair_of(2 * share))
        self.assertEqual((long - big)["a"], pair_of(share - Fraction(LONGEST, 7)))
        self.assertEqual(long.mixed(big, 1, 2)["a"], pair_of((share + Fraction(LONGEST, 7)) / 2))
        self.assertEqual(long.put_beside(Charge({"x": 1}))["a"], pair_of(share))
        self.is_false(long == big)
        self.is_true(long.times(1, LONGEST).times(1, LONGEST) == big)
        self.refuses(InvalidCharge, lambda: Charge(long.pays))
        self.refuses(InvalidNumber, lambda: Charge({"a": 1}, unit=LONG), LONG)


class Knots(Case):
    def test_knot_charge(self):
        for web in (DOT, BOND, EIGHT):
            for group in subsets(web.things):
                found = knot_charge(web, group)
                self.assertEqual(found.unit, 1)
                self.assertEqual(found.pays, {thing: int(thing in group) for thing in web.things})

    def test_knot_charge_refuses(self):
        for value in [value for value in OTHER_KINDS if not isinstance(value, Web)]:
            self.refuses(InvalidWeb, lambda: knot_charge(value, ()))
            self.refuses(InvalidWeb, lambda: knot_charge(value, None))
        for value in OTHER_KINDS + [("b", "a"), ("z",), "a", ["a"], ("a", "a")] + NOT_NAMES:
            self.refuses(InvalidGroup, lambda: knot_charge(BOND, value))


if __name__ == "__main__":
    unittest.main()
