"""Stage 1: names, integers and fractions [0.1] [0.5] [0.7]."""

import random
import unittest
from fractions import Fraction

from huebill.base.linear import greatest
from huebill.base.numbers import (
    MAX_DIGITS, MAX_NAME, MAX_THINGS, fraction_text, integer_text, is_fraction, is_integer, is_name, is_whole, lowest,
    reduced,
)
from huebill.errors import InvalidNumber
from tests.helper import LONG, LONGEST, NOT_NAMES, OTHER_KINDS, Case


class Numbers(Case):
    def test_constants(self):
        self.assertEqual((MAX_DIGITS, MAX_NAME, MAX_THINGS), (60, 8, 8))

    def test_is_integer(self):
        for value in (0, 1, -1, 17, LONGEST, -LONGEST, 10 ** 59):
            self.is_true(is_integer(value))
        for value in (LONG, -LONG, LONG + 1, 10 ** 99, True, False, None, "1", 1.0, (1,), [1], {1: 1}):
            self.is_false(is_integer(value))

    def test_is_whole_has_no_limit(self):
        self.is_true(is_whole(10 ** 99))
        self.is_true(is_whole(-LONG))
        self.is_false(is_whole(True))
        self.is_false(is_whole("1"))

    def test_is_name(self):
        for value in ("a", "z", "road", "abcdefgh", "aaaaaaaa", "true", "none"):
            self.is_true(is_name(value))
        for value in ("", "abcdefghi", "a" * 3000):
            self.is_false(is_name(value))

    def test_is_name_with_another_sign_at_any_place(self):
        for sign in "AZ09 _-`{@[\n\t.=\u00e9\u00df":
            for at in range(8):
                self.is_false(is_name("abcdefgh"[:at] + sign + "abcdefgh"[at + 1:]), (sign, at))
            self.is_false(is_name(sign))
            self.is_false(is_name("a" + sign))

    def test_is_name_of_other_kinds(self):
        for value in NOT_NAMES:
            self.is_false(is_name(value), value)

    def test_is_fraction(self):
        for value in ((0, 1), (1, 1), (-1, 1), (1, 2), (-3, 7), (LONGEST, 1), (-LONGEST, 1), (1, LONGEST), (7, 10)):
            self.is_true(is_fraction(value), value)

    def test_is_fraction_of_what_nearly_is_one(self):
        for value in ((0, 2), (2, 2), (2, 4), (-2, 4), (1, 0), (0, 0), (1, -2), (-1, -2), (0, -1), (LONG, 1), (1, LONG),
                      (-LONG, 7), (True, 1), (1, True), (False, 1), (1,), (), (1, 2, 3), [1, 2], "12", ("1", "2"),
                      (1, None), ((1, 2), 1), 1, {1: 2}):
            self.is_false(is_fraction(value), value)

    def test_is_fraction_of_other_kinds(self):
        for value in OTHER_KINDS:
            self.is_false(is_fraction(value), value)

    def test_lowest(self):
        for numerator in range(-12, 13):
            for denominator in range(-12, 13):
                if denominator != 0:
                    found = lowest(numerator, denominator)
                    self.is_true(is_fraction(found))
                    self.assertEqual(Fraction(*found), Fraction(numerator, denominator))

    def test_lowest_with_a_denominator_below_0(self):
        self.assertEqual(lowest(4, -6), (-2, 3))
        self.assertEqual(lowest(-4, -6), (2, 3))
        self.assertEqual(lowest(0, -6), (0, 1))
        self.assertEqual(lowest(LONGEST, -LONGEST), (-1, 1))
        self.assertEqual(lowest(1, -LONGEST), (-1, LONGEST))

    def test_lowest_refuses(self):
        self.refuses(InvalidNumber, lambda: lowest(1, 0), 0)
        for value in OTHER_KINDS:
            if not is_integer(value):
                self.refuses(InvalidNumber, lambda: lowest(value, 1), value)
                self.refuses(InvalidNumber, lambda: lowest(1, value), value)
                self.refuses(InvalidNumber, lambda: lowest(value, 0), value)
                self.refuses(InvalidNumber, lambda: lowest(value, None), value)
        self.refuses(InvalidNumber, lambda: lowest("p", "q"), "p")
        self.refuses(InvalidNumber, lambda: lowest(LONG, -LONG), LONG)

    def test_reduced_has_no_limit(self):
        self.assertEqual(reduced(6 * 10 ** 99, -4 * 10 ** 99), (-3, 2))

    def test_texts(self):
        for number in (0, 1, -1, 12345, -LONG, 10 ** 64, 10 ** 64 - 1, -10 ** 64, 10 ** 128 + 5, 3 ** 500, -7 ** 300):
            self.assertEqual(integer_text(number), str(number))
        self.assertEqual(integer_text(-10 ** 5000), "-1" + "0" * 5000)
        self.assertEqual([fraction_text(2, 4), fraction_text(-2, 4), fraction_text(6, 2), fraction_text(0, 5)],
                         ["1/2", "-1/2", "3", "0"])


class Programs(Case):
    def check(self, rows, limits, gains):
        unit, values, weights = greatest(rows, limits, gains)
        self.assertGreaterEqual(unit, 1)
        self.assertEqual((len(values), len(weights)), (len(gains), len(rows)))
        self.assertTrue(all(number >= 0 for number in values + weights))
        for row, limit in zip(rows, limits):
            self.assertLessEqual(sum(cell * value for cell, value in zip(row, values)), limit * unit)
        for at, gained in enumerate(gains):
            self.assertGreaterEqual(sum(row[at] * weight for row, weight in zip(rows, weights)), gained * unit)
        self.assertEqual(sum(gained * value for gained, value in zip(gains, values)),
                         sum(limit * weight for limit, weight in zip(limits, weights)))

    def test_some_programs(self):
        luck = random.Random(5)
        for _ in range(1500):
            wide, high = luck.randint(1, 6), luck.randint(0, 7)
            rows = [[luck.randint(-2, 3) for _ in range(wide)] for _ in range(high)]
            # One row of numbers above 0 alone, so that there is a greatest sum.
            rows.insert(luck.randint(0, high), [luck.randint(1, 3) for _ in range(wide)])
            most = luck.choice((0, 1, 4))
            limits = [luck.randint(0, most) for _ in rows]
            self.check(rows, limits, [luck.randint(-2, 5) for _ in range(wide)])

    def test_no_limit_left(self):
        self.check([[1, 1], [1, 0], [0, 1]], [0, 0, 0], [1, 1])
        self.assertEqual(greatest([[1, 1]], [1], [0, 0]), (1, [0, 0], [0]))


if __name__ == "__main__":
    unittest.main()
