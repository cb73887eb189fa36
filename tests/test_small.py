"""Stage 16: the properties of webs, all small webs, and webs that are alike [16.1] [16.2] [0.12] to [0.20]."""

import random
import time
import unittest
from itertools import combinations, permutations, product

from huebill.bills.exact import is_exact, is_wide
from huebill.bills.exists import has_kept, kept_bill
from huebill.bills.kept import is_kept
from huebill.bills.steady import is_steady
from huebill.errors import InvalidNumber, InvalidOperation, InvalidWeb, TooMany
from huebill.orders.orders import count_kind, mean_bill
from huebill.orders.shrinking import is_shrinking
from huebill.plans.plans import has_plan
from huebill.small.small import (
    MAX_SMALL, PROPERTIES, all_webs, alike_by, count_webs, first_web, is_alike_by, properties,
)
from huebill.webs.colours import full_knots, is_enough, loose_groups
from huebill.webs.good import is_good
from huebill.webs.webs import Web, round_web, row_web
from tests.helper import (
    BOND, BRIDGE, DOT, EIGHT, EMPTY_EIGHT, FIVE, LETTERS, LONG, NOT_THINGS, OTHER_KINDS, RINGS, ROW, Case, big_webs,
    near_dicts, plain_greatest, plain_kept, plain_parts_of, plain_properties, small_webs, some_webs, subsets,
)
from tests.helper import all_webs as every_web

WORDS = ("enough", "exact", "good", "kept", "planned", "shrinking", "steady")
# How many webs of one to five things have a property.
COUNTS = {
    "enough": [1, 2, 8, 64, 1012], "exact": [1, 2, 5, 30, 337], "good": [1, 2, 8, 64, 1012],
    "kept": [1, 2, 8, 64, 1012], "planned": [1, 2, 8, 49, 402], "shrinking": [1, 2, 5, 15, 52],
    "steady": [1, 2, 5, 30, 337],
}


def elder_properties(web):
    """The properties, by what the elder parts of the package say."""
    found = {
        "enough": is_enough(web), "exact": is_exact(web), "good": is_good(web), "kept": has_kept(web),
        "planned": has_plan(web), "shrinking": is_shrinking(web), "steady": is_good(web) and is_steady(web),
    }
    return tuple(word for word in WORDS if found[word])


def plain_all(names):
    """All webs of some names, sorted by the number of conflicts and by these."""
    pairs = list(combinations(sorted(names), 2))
    found = [Web(names, told) for many in range(len(pairs) + 1) for told in combinations(pairs, many)]
    return sorted(found, key=lambda web: (len(web.conflicts), web.conflicts))


def plain_alike(one, other, value):
    """Whether a dict leads all things of one web to all of another one, and keeps all conflicts."""
    if sorted(value) != list(one.things) or sorted(value.values()) != list(other.things):
        return False
    ties = {frozenset(pair) for pair in other.conflicts}
    return all((frozenset((value[low], value[high])) in ties) == ((low, high) in one.conflicts)
               for low, high in combinations(one.things, 2))


def is_one(one, other, value):
    """Whether is_alike_by says what a plain look says; returns it."""
    right = plain_alike(one, other, value)
    return is_alike_by(one, other, value) is right and right


def shuffled(web, luck, letters=LETTERS):
    names = luck.sample(letters, len(web))
    return web.renamed(dict(zip(web.things, names)))


class Properties(Case):
    def test_constants(self):
        self.assertEqual((PROPERTIES, MAX_SMALL), (WORDS, 5))

    def test_all_webs_up_to_four_things_and_many_more(self):
        webs = list(small_webs(4)) + list(every_web(5))[::11] + list(some_webs(6, 40, 161)) + list(big_webs())
        webs += list(some_webs(7, 20, 162)) + list(some_webs(8, 12, 163))
        seen = set()
        for web in webs:
            found = properties(web)
            self.assertIs(type(found), tuple)
            self.assertEqual(found, elder_properties(web))
            self.assertEqual(found, plain_properties(web))
            bill = kept_bill(web)
            self.assertEqual("kept" in found, bill is not None)
            self.assertTrue(bill is None or plain_kept(web, bill))
            seen.add(found)
        # Webs with all properties, with none, and with kept bills alone stand among them.
        self.assertLessEqual({WORDS, (), ("kept",)}, seen)

    def test_what_the_main_statements_say(self):
        for web in list(small_webs(4)) + list(every_web(5))[::13] + list(some_webs(7, 20, 164)):
            has = {word: word in properties(web) for word in WORDS}
            self.assertLessEqual(has["shrinking"], has["planned"] and has["exact"])
            self.assertLessEqual(has["planned"] or has["exact"], has["good"])
            self.assertLessEqual(has["exact"], has["steady"])
            self.assertLessEqual(has["good"], has["enough"])
            self.assertLessEqual(has["enough"], has["kept"])
            self.assertEqual(has["shrinking"], has["planned"] and has["steady"])
            if has["good"]:
                self.assertEqual(has["exact"], is_wide(web))

    def test_no_web(self):
        for value in [value for value in OTHER_KINDS if not isinstance(value, Web)] + [BOND.things]:
            self.refuses(InvalidWeb, lambda: properties(value))


class WhatIsNotTrue(Case):
    """[0.20]: for each sentence a web for which it is wrong."""

    def test_a_web_with_kept_bills_is_enough(self):
        self.assertEqual(properties(EIGHT), ("kept",))

    def test_its_parts_have_kept_bills_too(self):
        self.assertEqual([has_kept(EIGHT), has_kept(EIGHT.without("a"))], [True, False])

    def test_a_kept_bill_is_one_of_each_part(self):
        bill = kept_bill(ROW)
        parts = [group for group in subsets(ROW.things) if group]
        self.assertFalse(all(is_kept(ROW.part(group), bill.cut(group)) for group in parts))

    def test_greatest_knots_and_full_knots(self):
        self.assertEqual({thing for knot in plain_greatest(BRIDGE) for thing in knot}, set(BRIDGE.things))
        self.assertEqual({len(knot) for knot in full_knots(BRIDGE)}, {2, 3})

    def test_exact_webs_and_plans(self):
        self.assertEqual([is_exact(ROW), has_plan(ROW)], [True, False])
        self.assertEqual([is_exact(BOND), has_plan(BOND)], [False, True])

    def test_orders(self):
        self.assertEqual(count_kind(BOND), 4)
        self.is_false(is_kept(BOND, mean_bill(BOND)))


class AllWebs(Case):
    def test_each_once_and_in_order(self):
        for many in range(1, 6):
            names = tuple("abcde"[:many])
            found = list(all_webs(names))
            self.assertEqual(found, plain_all(names))
            self.assertEqual(len(found), 2 ** (many * (many - 1) // 2))
            places = [(len(web.conflicts), web.conflicts) for web in found]
            self.assertEqual(places, sorted(set(places)))

    def test_names_in_any_order(self):
        for names in (("zz", "b", "road"), ("d", "c", "b", "a"), ("x",), ("b", "aaaaaaaa")):
            self.assertEqual(list(all_webs(names)), plain_all(names))
            self.assertEqual(list(all_webs(names)), list(all_webs(tuple(sorted(names)))))

    def test_it_is_a_generator(self):
        webs = all_webs(("a", "b", "c"))
        self.assertIs(iter(webs), webs)
        self.assertEqual([str(next(webs)), str(next(webs))], ["web of a b c: -", "web of a b c: a-b"])
        other = all_webs(("a", "b", "c"))
        self.assertEqual(len(list(webs)), 6)
        self.assertEqual(len(list(other)), 8)

    def test_refusals_come_with_the_first_web(self):
        for value in NOT_THINGS + [("a", "b", "a"), ["a", "b"], "abc", (), tuple("abcdefghi"), ("a", "B"), {"a": 1}]:
            webs = all_webs(value)
            self.refuses(InvalidWeb, lambda: next(webs))
        for names in (tuple("abcdef"), LETTERS):
            webs = all_webs(names)
            self.refuses(TooMany, lambda: next(webs), 5)
        webs = all_webs(("a", "b", "c", "d", "e", "e"))
        self.refuses(InvalidWeb, lambda: next(webs))


class Counts(Case):
    def test_all_counts_in_a_short_time(self):
        start = time.process_time()
        found = {word: [count_webs(many, word) for many in range(1, 6)] for word in WORDS}
        self.assertLess(time.process_time() - start, 20)
        self.assertEqual(found, COUNTS)

    def test_against_plain_looks(self):
        for many in range(1, 6):
            told = [plain_properties(web) for web in every_web(many)]
            for word in WORDS:
                self.assertEqual(COUNTS[word][many - 1], sum(word in found for found in told))

    def test_what_the_document_tells(self):
        self.assertEqual([count_webs(many, "shrinking") for many in range(1, 6)], [1, 2, 5, 15, 52])
        self.assertEqual(1024 - count_webs(5, "good"), 12)
        rings = {str(round_web(told, 1)) for told in permutations("abcde")}
        self.assertEqual({str(web) for web in all_webs(tuple("abcde")) if not is_good(web)}, rings)

    def test_refusals_in_their_order(self):
        for value in OTHER_KINDS + [6, 7, 8, 2 ** 40]:
            if type(value) is not int or not 1 <= value <= 5:
                self.refuses(InvalidNumber, lambda: count_webs(value, "good"), value)
                self.refuses(InvalidNumber, lambda: count_webs(value, None), value)
        for value in OTHER_KINDS + ["wide", "Good", "good ", ("good",), ["good"], "go", {"good": "good"}, LONG]:
            if value not in WORDS:
                self.refuses(InvalidOperation, lambda: count_webs(3, value))


class First(Case):
    def test_against_a_plain_search(self):
        luck = random.Random(165)
        seen = set()
        tables = {many: [(web, set(elder_properties(web))) for web in plain_all(tuple("abcde"[:many]))]
                  for many in range(1, 6)}
        for many in (1, 2, 3, 4, 4, 4, 5, 5):
            for _ in range(12):
                wanted = tuple(luck.choices(WORDS, k=luck.randint(0, 2)))
                lacking = tuple(luck.choices(WORDS, k=luck.randint(0, 3)))
                right = next((web for web, has in tables[many]
                              if has >= set(wanted) and not has & set(lacking)), None)
                self.assertEqual(first_web(tuple("abcde"[:many]), wanted, lacking), right, (wanted, lacking))
                seen.add(right is None)
        self.assertEqual(len(seen), 2)

    def test_known_ones(self):
        self.assertEqual(first_web(tuple("edcba"), (), ("good",)),
                         round_web(("a", "b", "d", "e", "c"), 1))
        self.assertEqual(first_web(("x", "y"), (), ()), Web(("x", "y"), ()))
        self.assertIsNone(first_web(tuple("abc"), ("good",), ("good",)))
        self.assertIsNone(first_web(("a",), (), ("kept",)))
        self.assertIsNone(first_web(tuple("abcde"), ("kept",), ("enough",)))
        self.assertEqual(first_web(tuple("cba"), ("shrinking", "shrinking"), ("planned",)), None)

    def test_refusals_in_their_order(self):
        for value in NOT_THINGS + [("a", "a"), ["a"], "abc", tuple("abcdefghi")]:
            self.refuses(InvalidWeb, lambda: first_web(value, None, None))
        wrong = [value for value in OTHER_KINDS if value != ("kept",)]
        wrong += ["good", ["good"], ("good", "wide"), {"good": 1}, ("good", 1), (("good",),), "", ("Good",)]
        for value in wrong:
            for names in (("a", "b"), LETTERS):
                self.refuses(InvalidOperation, lambda: first_web(names, value, None))
                self.refuses(InvalidOperation, lambda: first_web(names, value, ("good",)))
                self.refuses(InvalidOperation, lambda: first_web(names, ("good",), value))
        for names in (LETTERS, tuple("fedcba")):
            self.refuses(TooMany, lambda: first_web(names, (), ()), 5)
            self.refuses(TooMany, lambda: first_web(names, ("good",), ("kept",)), 5)


class Alike(Case):
    def check(self, one, other):
        found = alike_by(one, other)
        self.assertEqual(alike_by(other, one) is None, found is None)
        if found is not None:
            self.assertIs(type(found), dict)
            self.assertEqual(list(found), list(one.things))
            self.assertTrue(is_one(one, other, found))
            self.is_true(is_alike_by(other, one, {found[thing]: thing for thing in found}))
            self.assertEqual(alike_by(one, other), found)
        return found is not None

    def test_renamed_webs(self):
        luck = random.Random(166)
        for web in list(small_webs(3)) + list(some_webs(5, 20, 1)) + list(big_webs()):
            other = shuffled(web, luck)
            self.assertTrue(self.check(web, other))
            self.assertTrue(self.check(web, shuffled(web, luck, tuple("mnopqrstuvwxyz"))))
            if len(web.conflicts) > 0:
                self.assertFalse(self.check(web, other.without_conflict(*luck.choice(other.conflicts))))
            if len(web) < 8:
                self.assertFalse(self.check(web, web.with_thing("zz")))

    def test_all_pairs_of_small_webs(self):
        for many in (1, 2, 3, 4):
            webs = list(every_web(many))
            seen = set()
            for one, other in product(webs[::3], webs[::2]):
                right = any(plain_alike(one, other, dict(zip(one.things, told))) for told in permutations(other.things))
                self.assertEqual(self.check(one, other), right)
                seen.add(right)
            if many > 2:
                self.assertEqual(len(seen), 2)

    def test_webs_whose_things_have_equally_many_conflicts(self):
        two = Web(LETTERS, tuple(zip("abcd", "bcda")) + tuple(zip("efgh", "fghe")))
        cube = Web(LETTERS, two.conflicts + tuple(zip("abcd", "efgh")))
        luck = random.Random(167)
        start = time.process_time()
        for one, other in ((two, RINGS[5]), (~two, ~RINGS[5]), (cube, round_web(LETTERS, 1, 4)), (~cube, EIGHT),
                           (EMPTY_EIGHT.with_conflict("g", "h"), EMPTY_EIGHT), (~EMPTY_EIGHT, ~DOT)):
            for _ in range(5):
                self.assertFalse(self.check(shuffled(one, luck), shuffled(other, luck, LETTERS)))
                self.assertTrue(self.check(shuffled(one, luck), shuffled(one, luck)))
        self.assertTrue(self.check(RINGS[5], round_web(LETTERS, 3)))
        self.assertTrue(self.check(~row_web(tuple("abcd")), ROW))
        self.assertLess(time.process_time() - start, 20)

    def test_near_dicts(self):
        cases = [(FIVE, ~FIVE), (BOND, BOND), (ROW, ~ROW), (ROW.renamed({"a": "x"}), ROW), (DOT, DOT)]
        items = ["a", "b", "c", "d", "x", "z", "", None, 1, True, ("a",), ["a"], {}]
        for one, other in cases:
            told = alike_by(one, other)
            seen = set()
            for near in near_dicts(told, ["a", "x", "z", None, 1, ("a",)], items):
                right = isinstance(near, dict) and all(isinstance(key, str) for key in near) and all(
                    isinstance(value, str) for value in near.values()) and plain_alike(one, other, near)
                self.assertIs(is_alike_by(one, other, near), right, near)
                seen.add(right)
            self.assertIn(False, seen)
            self.is_true(is_alike_by(one, other, dict(list(told.items())[::-1])))

    def test_all_ways(self):
        for one, other in ((FIVE, ~FIVE), (ROW, ROW), (ROW, ~ROW), (BOND, ~BOND), (BOND, BOND.renamed({"a": "x"}))):
            found = [told for told in permutations(other.things) if is_one(one, other, dict(zip(one.things, told)))]
            self.assertEqual(len(found) > 0, alike_by(one, other) is not None)
        self.assertEqual(sum(is_alike_by(FIVE, ~FIVE, dict(zip("abcde", told))) for told in permutations("abcde")), 10)

    def test_values_of_other_kinds(self):
        for value in OTHER_KINDS + [("a", "b", "c"), list("abc"), {"a": "a", "b": "b"}, BOND, "abc"]:
            self.is_false(is_alike_by(BOND, BOND, value))
            self.is_false(is_alike_by(DOT, DOT, value))
            self.is_false(is_alike_by(DOT, DOT, {"x": value}))
            self.is_false(is_alike_by(BOND, DOT, value))
        self.is_true(is_alike_by(BOND, BOND, {"c": "b", "b": "c", "a": "a"}))

    def test_no_web(self):
        for value in [value for value in OTHER_KINDS if not isinstance(value, Web)] + [BOND.things]:
            self.refuses(InvalidWeb, lambda: alike_by(value, None))
            self.refuses(InvalidWeb, lambda: alike_by(value, BOND))
            self.refuses(InvalidWeb, lambda: is_alike_by(value, BOND, None))
            self.refuses(InvalidWeb, lambda: alike_by(BOND, value))
            self.refuses(InvalidWeb, lambda: is_alike_by(value, None, None))
            self.refuses(InvalidWeb, lambda: is_alike_by(BOND, value, None))

    def test_parts_of_alike_webs(self):
        luck = random.Random(168)
        for web in some_webs(7, 6, 2):
            other = shuffled(web, luck)
            found = alike_by(web, other)
            for group in list(subsets(web.things))[1::17]:
                image = tuple(sorted(found[thing] for thing in group))
                self.assertIsNotNone(alike_by(plain_parts_of(web, group), other.part(image)))
            self.assertEqual(len(loose_groups(web)), len(loose_groups(other)))


if __name__ == "__main__":
    unittest.main()
