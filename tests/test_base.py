"""What the stages rest on: linear programs, balanced shares and relations, all in whole numbers."""

import random
import unittest

from huebill.base.linear import balanced, greatest
from huebill.base.shares import are_shares, positive_parts, share_pair
from huebill.base.spans import relations
from tests.helper import Case, rank


def tables(times, seed, least, most):
    """Tables of drawn sizes and integers, the same at each run."""
    luck = random.Random(seed)
    for _ in range(times):
        wide = luck.randint(1, 6)
        yield [[luck.randint(least, most) for _ in range(wide)] for _ in range(luck.randint(1, 6))]


def times(row, values):
    return sum(cell * value for cell, value in zip(row, values))


class LinearPrograms(Case):
    def test_the_answer_and_what_shows_it(self):
        luck = random.Random(5)
        for table in tables(400, 6, -3, 4):
            rows = table + [[1] * len(table[0])]
            limits = [luck.choice((0, 0, 1, 2, 7, 10 ** 30)) for _ in rows]
            gains = [luck.choice((-2, 0, 1, 3, 10 ** 25)) for _ in rows[0]]
            unit, values, weights = greatest(rows, limits, gains)
            self.assertGreaterEqual(unit, 1)
            self.assertGreaterEqual(min(values + weights), 0)
            self.assertEqual((len(values), len(weights)), (len(gains), len(rows)))
            for row, limit in zip(rows, limits):
                self.assertLessEqual(times(row, values), limit * unit)
            for column, gain in zip(zip(*rows), gains):
                self.assertGreaterEqual(times(column, weights), gain * unit)
            self.assertEqual(times(gains, values), times(limits, weights))
            self.assertLessEqual(sum(value > 0 for value in values), len(rows))

    def test_balanced_shares(self):
        for table in list(tables(200, 7, 0, 3)) + list(tables(50, 8, 0, 1)):
            rows, columns = balanced(table)
            self.assertEqual((len(rows), len(columns)), (len(table), len(table[0])))
            self.assertEqual(sum(rows), sum(columns))
            self.assertGreaterEqual(min(rows + columns), 0)
            least = min(times(column, rows) for column in zip(*table))
            self.assertEqual(least, max(times(row, columns) for row in table))


class Relations(Case):
    def test_relations(self):
        for table in list(tables(200, 9, -2, 2)) + list(tables(100, 10, 0, 1)):
            found = relations(table)
            self.assertEqual(len(found), len(table) - rank(table))
            for numbers in found:
                self.assertEqual(len(numbers), len(table))
                self.assertTrue(all(times(column, numbers) == 0 for column in zip(*table)))
            self.assertEqual(rank(found), len(found))

    def test_small_ones(self):
        self.assertEqual(relations([[1, 0], [0, 1]]), [])
        self.assertEqual([[abs(number) for number in found] for found in relations([[2], [3]])], [[3, 2]])


class Shares(Case):
    def test_shares(self):
        self.is_true(are_shares((3, {"a": 1, "b": 2}), ("a", "b", "c")))
        self.is_false(are_shares((3, {"a": 1, "d": 2}), ("a", "b", "c")))
        self.is_false(are_shares((4, {"a": 1, "b": 2}), ("a", "b", "c")))
        self.assertEqual(share_pair(("a", "b", "c", "d"), [4, 0, -2, 6]), (5, {"a": 2, "d": 3}))
        self.assertEqual(positive_parts(("a", "b"), [0, 6]), {"b": 1})
        self.assertEqual(positive_parts(("a", "b"), [0, 0]), {})


if __name__ == "__main__":
    unittest.main()
