"""Stage 12: plans [0.12] [0.17] [12.1] [12.2] [12.3]."""

import random
import unittest
from fractions import Fraction
from functools import lru_cache
from itertools import combinations, permutations

from huebill.bills.charges import Charge
from huebill.bills.kept import is_kept
from huebill.errors import InvalidGroup, InvalidNumber, InvalidOperation, InvalidOrder, InvalidPlan, InvalidWeb
from huebill.plans.plans import (
    bills_along, has_plan, is_plan, is_plan_paper, is_tree, mixed_plan, plan, plan_paper, rises, tree, tree_bill,
    tree_plan,
)
from huebill.webs.webs import Web
from tests.helper import (
    BOND, BRIDGE, DOT, EIGHT, EMPTY_EIGHT, FIVE, LETTERS, LONG, LONGEST, OTHER_KINDS, RINGS, ROW, Case, all_webs,
    big_webs, near_tuples, pair_of, plain_kept, plain_parts_of, shares_of, sided_web, small_webs, some_charges,
    some_webs, subsets,
)

BOND_TREE = ("free", "a", ("over", ("one", "b"), ("one", "c")))
PAIR = Web(("a", "b"), ())
PAIRS = Web(tuple("abcd"), (("a", "b"), ("c", "d")))


def tree_web(told):
    """The things of a tree and their conflicts, by the test's own walk."""
    if told[0] == "one":
        return [told[1]], []
    if told[0] == "free":
        things, pairs = tree_web(told[2])
        return [told[1]] + things, pairs
    one, one_pairs = tree_web(told[1])
    other, other_pairs = tree_web(told[2])
    return one + other, one_pairs + other_pairs + [(low, high) for low in one for high in other]


def drawn_tree(luck, things):
    if len(things) == 1:
        return ("one", things[0])
    if luck.random() < 0.4:
        return ("free", things[0], drawn_tree(luck, things[1:]))
    at = luck.randint(1, len(things) - 1)
    return ("over", drawn_tree(luck, things[:at]), drawn_tree(luck, things[at:]))


def drawn_trees(times, seed):
    """Trees of drawn shapes with their webs, the same at each run."""
    luck = random.Random(seed)
    for _ in range(times):
        things = list(LETTERS[:luck.randint(1, 8)])
        luck.shuffle(things)
        told = drawn_tree(luck, things)
        yield told, Web(*[tuple(part) for part in tree_web(told)])


def plain_tree(web, value):
    """Whether a value is a tree of the web: whether it is built as one, and tells its things and conflicts."""
    if not built(value):
        return False
    things, pairs = tree_web(value)
    return sorted(things) == list(web.things) and sorted(tuple(sorted(pair)) for pair in pairs) == list(web.conflicts)


def built(value):
    if not isinstance(value, tuple) or not value or not isinstance(value[0], str):
        return False
    kinds = {"one": (2, ()), "free": (3, (2,)), "over": (3, (1, 2))}
    if value[0] not in kinds or len(value) != kinds[value[0]][0]:
        return False
    parts = kinds[value[0]][1]
    return all(built(value[at]) if at in parts else isinstance(value[at], str) for at in range(1, len(value)))


def near_trees(told, items):
    """The tree with a part of it exchanged, at each place."""
    yield from near_tuples(told, items)
    for at, part in enumerate(told):
        if isinstance(part, tuple):
            for near in near_trees(part, items):
                yield told[:at] + (near,) + told[at + 1:]


def walk(told, group):
    """What the things of a group, which is not empty, pay by a tree, as [12.2] says it."""
    if told[0] == "one":
        return {told[1]: 1}
    if told[0] == "free":
        inner = [thing for thing in group if thing != told[1]]
        if not inner:
            return {told[1]: 1}
        return {**walk(told[2], inner), **({told[1]: 0} if told[1] in group else {})}
    paid = {}
    for part in told[1:]:
        inner = [thing for thing in group if thing in tree_web(part)[0]]
        if inner:
            paid.update(walk(part, inner))
    return paid


def bad_four(web, word, four):
    """Whether four things have just three conflicts in this row, or just the first two and the last two have one."""
    told = {"row": [(0, 1), (1, 2), (2, 3)], "apart": [(0, 1), (2, 3)]}[word]
    return len(set(four)) == 4 and set(four) <= set(web.things) and all(
        (tuple(sorted((four[one], four[other]))) in web.conflicts) == ((one, other) in told)
        for one, other in combinations(range(4), 2))


def without_bad_four(web):
    return not any(bad_four(web, word, four) for four in permutations(web.things, 4) for word in ("row", "apart"))


def plain_rises(bills):
    """All rises of a dict from all groups to charges, in things, groups and groups with one thing more."""
    shares = {group: shares_of(bill) for group, bill in bills.items()}
    found = []
    for group in shares:
        for greater in shares:
            if set(group) < set(greater) and len(greater) == len(group) + 1:
                found += [(thing, group, greater) for thing in group if shares[greater][thing] > shares[group][thing]]
    return tuple(sorted(found))


@lru_cache(maxsize=None)
def inclusions(groups):
    return [(group, greater) for group in groups for greater in groups if set(group) < set(greater)]


def plain_plan(web, bills):
    """Whether a dict is a plan, by a look at all groups and all greater ones."""
    groups = [group for group in subsets(web.things) if group]
    if not isinstance(bills, dict) or sorted(bills, key=str) != sorted(groups, key=str):
        return False
    if not all(isinstance(bills[group], Charge) and bills[group].things == group for group in groups):
        return False
    if not all(plain_kept(plain_parts_of(web, group), bills[group]) for group in groups):
        return False
    shares = {group: shares_of(bills[group]) for group in groups}
    return all(shares[greater][thing] <= shares[group][thing]
               for group, greater in inclusions(tuple(groups)) for thing in group)


def far_plan(web):
    """A plan of a web without conflicts by which each group shares 1 in halves, thirds and so on."""
    return {group: Charge({thing: 1 for thing in group}, unit=len(group)) for group in subsets(web.things) if group}


class Trees(Case):
    def test_drawn_trees(self):
        for told, web in drawn_trees(150, 3):
            self.is_true(is_tree(web, told))
            self.is_true(has_plan(web))
            self.assertTrue(plain_tree(web, tree(web)))
            self.is_true(is_tree(web, tree(web)))
            self.is_true(is_plan_paper(web, ("tree", told)))
            for pair in list(combinations(web.things, 2))[:6]:
                changed = web.without_conflict(*pair) if web.are_tied(*pair) else web.with_conflict(*pair)
                self.is_false(is_tree(changed, told))
            if len(web) < 8:
                self.is_false(is_tree(web.with_thing("z"), told))
            if len(web) > 1:
                self.is_false(is_tree(web.without(web.things[0]), told))

    def test_near_trees(self):
        items = OTHER_KINDS + ["a", "b", "c", "z", "one", "free", "over", ("one", "a"), ("one", "b"), ("one", "z")]
        trees = [(BOND, BOND_TREE), (DOT, ("one", "x")), (PAIR, ("free", "b", ("one", "a")))]
        for told, web in list(drawn_trees(6, 8)) + [(told, web) for web, told in trees]:
            seen = set()
            for near in near_trees(told, items):
                right = plain_tree(web, near)
                self.assertIs(is_tree(web, near), right, near)
                self.assertIs(is_plan_paper(web, ("tree", near)), right, near)
                seen.add(right)
            self.assertIn(False, seen)

    def test_other_trees_of_a_web(self):
        self.is_true(is_tree(PAIR, ("free", "a", ("one", "b"))))
        self.is_true(is_tree(PAIR, ("free", "b", ("one", "a"))))
        self.is_false(is_tree(PAIR, ("over", ("one", "a"), ("one", "b"))))
        self.is_false(is_tree(~PAIR, ("free", "a", ("one", "b"))))
        self.is_true(is_tree(~PAIR, ("over", ("one", "b"), ("one", "a"))))
        self.is_false(is_tree(PAIR, ("free", ("one", "a"), ("one", "b"))))
        self.is_false(is_tree(PAIR, ("free", "a", "b")))
        self.is_false(is_tree(PAIR, ("free", "a", ("free", "b", ("one", "a")))))
        self.is_false(is_tree(~PAIR, ("over", ("over", ("one", "a"), ("one", "b")), ("one", "a"))))

    def test_values_of_other_kinds(self):
        for value in OTHER_KINDS + [list(BOND_TREE), {"free": "a"}, BOND, ("one", ["a"]), ("over", "b", "c")]:
            self.is_false(is_tree(BOND, value))
            self.is_false(is_tree(DOT, value))
            self.is_false(is_tree(DOT, ("one", value)))

    def test_bills_of_trees(self):
        for told, web in drawn_trees(60, 5):
            for group in list(subsets(web.things))[1:100]:
                bill = tree_bill(web, told, group)
                self.assertEqual(shares_of(bill), walk(told, group))
                self.assertTrue(plain_kept(plain_parts_of(web, group), bill))

    def test_bills_along(self):
        luck = random.Random(4)
        for told, web in drawn_trees(60, 6):
            order = list(web.things)
            luck.shuffle(order)
            found = bills_along(web, told, tuple(order))
            self.assertEqual((type(found), len(found)), (tuple, len(web)))
            for at, bill in enumerate(found):
                group = tuple(sorted(order[:at + 1]))
                self.assertEqual(bill, tree_bill(web, told, group))
                self.assertEqual(shares_of(bill), walk(told, group))
                if at > 0:
                    self.assertTrue(all(shares_of(bill)[thing] <= shares_of(found[at - 1])[thing]
                                        for thing in order[:at]))


class Papers(Case):
    def webs(self):
        yield from small_webs(4)
        yield from list(all_webs(5))[::5]
        yield from some_webs(6, 20, 62)
        yield from big_webs()
        yield from (web for _, web in drawn_trees(10, 63))

    def test_against_all_fours(self):
        words = set()
        for web in self.webs():
            right = without_bad_four(web)
            self.assertIs(has_plan(web), right, str(web))
            paper = plan_paper(web)
            self.assertIs(type(paper), tuple)
            self.is_true(is_plan_paper(web, paper))
            if right:
                self.assertEqual(paper[0], "tree")
                self.assertTrue(plain_tree(web, paper[1]))
                self.assertEqual(paper, ("tree", tree(web)))
            else:
                self.assertTrue(bad_four(web, paper[0], paper[1:]))
                self.assertIsNone(tree(web))
                self.assertIsNone(plan(web))
            words.add(paper[0])
        self.assertEqual(words, {"tree", "row", "apart"})

    def test_all_fours(self):
        for web in list(all_webs(4)) + [FIVE, RINGS[3], BRIDGE]:
            for four in permutations(web.things, 4):
                for word in ("row", "apart"):
                    self.assertIs(is_plan_paper(web, (word, *four)), bad_four(web, word, four))

    def test_values_near_papers(self):
        items = OTHER_KINDS + ["row", "apart", "tree", "a", "b", "c", "d", "e", BOND_TREE]
        for web, right in ((ROW, ("row", "a", "b", "c", "d")), (PAIRS, ("apart", "b", "a", "c", "d")),
                           (BOND, ("tree", BOND_TREE)), (FIVE, ("row", "a", "b", "c", "d"))):
            for near in near_tuples(right, items):
                known = isinstance(near, tuple) and len(near) == 5 and near[0] in ("row", "apart") and all(
                    isinstance(thing, str) for thing in near)
                self.assertIs(is_plan_paper(web, near), near == right or known and bad_four(web, near[0], near[1:]))

    def test_values_of_other_kinds(self):
        for value in OTHER_KINDS + [["tree", BOND_TREE], BOND_TREE[2], ("tree", list(BOND_TREE)), BOND]:
            for web in (BOND, ROW, PAIRS, DOT):
                self.is_false(is_plan_paper(web, value))
                for word in ("tree", "row", "apart"):
                    self.is_false(is_plan_paper(web, (word, value)))
                    self.is_false(is_plan_paper(web, (word, value, "b", "c", "d")))

    def test_each_part_of_a_web_with_a_plan_has_one(self):
        for _, web in drawn_trees(15, 64):
            for group in list(subsets(web.things))[1::7]:
                self.is_true(has_plan(plain_parts_of(web, group)))


class Plans(Case):
    def test_plans(self):
        for told, web in drawn_trees(25, 7):
            for found in (plan(web), tree_plan(web, told)):
                self.assertEqual(list(found), sorted(group for group in subsets(web.things) if group))
                self.is_true(is_plan(web, found))
                if len(web) < 7:
                    self.assertTrue(plain_plan(web, found))
                self.assertEqual(rises(web, found), ())
            for group, bill in tree_plan(web, told).items():
                self.assertEqual(shares_of(bill), walk(told, group))

    def test_small_webs(self):
        for web in small_webs(4):
            found = plan(web)
            self.assertEqual(found is None, not without_bad_four(web))
            if found is not None:
                self.assertTrue(plain_plan(web, found))
                self.is_true(is_plan(web, found))
            else:
                kept = {group: Charge({thing: 1 for thing in group}) for group in subsets(web.things) if group}
                self.is_false(is_plan(web, kept))

    def test_the_greatest_webs(self):
        for web in (EMPTY_EIGHT, ~EMPTY_EIGHT, sided_web(3, 3, 2), sided_web(1, 7)):
            found = plan(web)
            self.assertEqual(len(found), 255)
            self.is_true(is_plan(web, found))
            last = web.things
            self.is_false(is_plan(web, {**found, last: found[last].times(1, 2)}))
        self.is_true(is_plan(EMPTY_EIGHT, far_plan(EMPTY_EIGHT)))

    def test_charges_exchanged_moved_left_out_and_put_in(self):
        luck = random.Random(9)
        seen = set()
        for told, web in [(BOND_TREE, BOND)] + [row for row in drawn_trees(30, 10) if 1 < len(row[1]) < 5][:8]:
            found = tree_plan(web, told)
            cases = [found, {**found, (): Charge({"a": 1})}, {**found, "a": Charge({"a": 1})},
                     {**found, web.things[::-1]: found[web.things]}, {**found, None: None}, {}]
            for group in found:
                cases.append({other: found[other] for other in found if other != group})
                for other in found:
                    cases.append({**found, group: found[other]})
                    cases.append({**found, group: found[other], other: found[group]})
                for bill in list(some_charges(web.part(group), 5, luck.randint(1, 99))):
                    cases.append({**found, group: bill})
                for wrong in (None, found[group].pays, str(found[group]), (found[group],), True, group):
                    cases.append({**found, group: wrong})
                for thing in group:
                    cases.append({**found, group: Charge({one: int(one == thing) for one in group})})
                    tiny = Charge({one: (one == thing) - (one == group[0]) for one in group}).times(1, LONGEST)
                    cases.append({**found, group: found[group] + tiny})
            for value in cases:
                right = plain_plan(web, value)
                self.assertIs(is_plan(web, value), right)
                seen.add(right)
        self.assertEqual(len(seen), 2)

    def test_values_of_other_kinds(self):
        found = plan(BOND)
        for value in OTHER_KINDS + [list(found), tuple(found.items()), BOND_TREE, BOND, found[("a",)], (found,)]:
            self.is_false(is_plan(BOND, value))
            self.is_false(is_plan(DOT, value))
            self.is_false(is_plan(DOT, {("x",): value}))
            self.refuses(InvalidPlan, lambda: rises(BOND, value))
        self.is_true(is_plan(DOT, {("x",): Charge({"x": 1})}))
        self.is_false(is_plan(DOT, {("x",): Charge({"x": 2})}))
        self.is_false(is_plan(ROW, found))

    def test_the_order_of_a_dict_has_no_effect(self):
        found = plan(BOND)
        turned = dict(list(found.items())[::-1])
        self.is_true(is_plan(BOND, turned))
        self.assertEqual(list(turned), list(found)[::-1])
        self.assertEqual(list(mixed_plan(BOND, turned, turned, 1, 2)), list(found))

    def test_rises(self):
        luck = random.Random(12)
        many = 0
        for web in list(small_webs(3)) + list(some_webs(4, 8, 13)) + [sided_web(2, 1, 2)]:
            groups = [group for group in subsets(web.things) if group]
            for _ in range(6):
                bills = {group: Charge({thing: luck.randint(-2, 3) for thing in group}, unit=luck.choice((1, 2, 3)))
                         for group in luck.sample(groups, len(groups))}
                self.assertEqual(rises(web, bills), plain_rises(bills))
                many += len(rises(web, bills))
            even = {group: Charge({thing: 1 for thing in group}, unit=len(group)) for group in groups}
            self.assertEqual(rises(web, even), ())
            growing = {group: Charge({thing: len(group) for thing in group}) for group in groups}
            self.assertEqual(rises(web, growing), plain_rises(growing))
        self.assertGreater(many, 100)

    def test_rises_of_long_integers(self):
        tiny = Charge({"a": 1, "b": -1}).times(1, LONGEST).times(1, LONGEST)
        bills = {("a",): Charge({"a": 1}), ("b",): Charge({"b": 1}), ("a", "b"): Charge({"a": 1, "b": 1}) + tiny}
        self.assertEqual(rises(PAIR, bills), (("a", ("a",), ("a", "b")),))
        bills[("a", "b")] = Charge({"a": 1, "b": 1}) - tiny
        self.assertEqual(rises(PAIR, bills), (("b", ("b",), ("a", "b")),))

    def test_rises_refuses(self):
        found = plan(BOND)
        for value in ({group: found[group] for group in list(found)[1:]}, {**found, (): Charge({"a": 1})},
                      {**found, ("a",): Charge({"b": 1})}, {**found, ("a",): Charge({"a": 1, "b": 1})}, {},
                      {**found, ("a",): None}, {**found, ("z",): Charge({"z": 1})}, {**found, 1: 1}):
            self.refuses(InvalidPlan, lambda: rises(BOND, value))
            self.is_false(is_plan(BOND, value))


class Mixed(Case):
    def test_mixed_plans(self):
        webs = [(PAIR, far_plan(PAIR))] + [(web, far_plan(web)) for web in (Web(tuple("abcd"), ()), EMPTY_EIGHT)]
        for web, one in webs:
            for other in (plan(web), tree_plan(web, free_tree(web.things[::-1]))):
                for over, under in ((0, 1), (1, 1), (1, 2), (2, 6), (LONGEST - 1, LONGEST), (0, LONGEST)):
                    found = mixed_plan(web, one, other, over, under)
                    self.is_true(is_plan(web, found))
                    part = Fraction(over, under)
                    for group in list(found)[::3]:
                        first, last = shares_of(one[group]), shares_of(other[group])
                        self.assertEqual(shares_of(found[group]),
                                         {thing: part * first[thing] + (1 - part) * last[thing] for thing in group})
                    self.assertEqual(list(found), sorted(found))
        half = mixed_plan(PAIR, plan(PAIR), tree_plan(PAIR, ("free", "b", ("one", "a"))), 1, 2)
        self.assertEqual(half[("a", "b")]["a"], pair_of(Fraction(1, 2)))

    def test_plans_of_trees_mixed(self):
        for told, web in [row for row in drawn_trees(40, 17) if len(row[1]) < 6]:
            found = mixed_plan(web, plan(web), tree_plan(web, told), 3, 7)
            self.assertTrue(plain_plan(web, found))
            self.is_true(is_plan(web, mixed_plan(web, found, found, 1, LONGEST)))

    def test_refusals_in_their_order(self):
        good, wrong = plan(BOND), {**plan(BOND), ("a", "c"): Charge({"a": 1, "c": 0})}
        for value in OTHER_KINDS + [wrong, BOND_TREE, {}, list(good)]:
            self.refuses(InvalidPlan, lambda: mixed_plan(BOND, value, None, None, None))
            self.refuses(InvalidPlan, lambda: mixed_plan(BOND, good, value, None, None))
        for value in OTHER_KINDS:
            if type(value) is not int or abs(value) >= LONG:
                self.refuses(InvalidNumber, lambda: mixed_plan(BOND, good, good, value, None), value)
            if type(value) is not int or not 1 <= value < LONG:
                self.refuses(InvalidNumber, lambda: mixed_plan(BOND, good, good, 5, value), value)
        for over, under in ((-1, 1), (2, 1), (8, 7), (-LONGEST, LONGEST)):
            self.refuses(InvalidNumber, lambda: mixed_plan(BOND, good, good, over, under), over)
        self.refuses(InvalidWeb, lambda: mixed_plan(None, good, good, 1, 2))
        self.assertEqual(good, plan(BOND))


def free_tree(things):
    """The tree by which the last of some things without conflicts pays."""
    if len(things) == 1:
        return ("one", things[0])
    return ("free", things[0], free_tree(things[1:]))


class Refusals(Case):
    def test_no_web(self):
        for value in [value for value in OTHER_KINDS if not isinstance(value, Web)] + [FIVE.things]:
            for call in (tree, has_plan, plan_paper, plan):
                self.refuses(InvalidWeb, lambda: call(value))
            for call in (is_tree, is_plan_paper, is_plan, tree_plan, rises):
                self.refuses(InvalidWeb, lambda: call(value, None))
            for call in (tree_bill, bills_along):
                self.refuses(InvalidWeb, lambda: call(value, None, None))
            self.refuses(InvalidWeb, lambda: mixed_plan(value, None, None, None, None))

    def test_no_tree(self):
        for value in OTHER_KINDS + [("one", "a"), BOND_TREE[2], list(BOND_TREE), ("tree", BOND_TREE),
                                    ("free", "b", ("over", ("one", "a"), ("one", "c")))]:
            for web in (BOND, FIVE):
                self.refuses(InvalidPlan, lambda: tree_bill(web, value, None))
                self.refuses(InvalidPlan, lambda: bills_along(web, value, None))
                self.refuses(InvalidPlan, lambda: tree_plan(web, value))

    def test_no_group_and_no_order(self):
        for value in OTHER_KINDS + [("b", "a"), ("z",), "a", ["a"], ("a", "a")]:
            self.refuses(InvalidGroup, lambda: tree_bill(BOND, BOND_TREE, value))
        self.refuses(InvalidOperation, lambda: tree_bill(BOND, BOND_TREE, ()))
        for value in OTHER_KINDS + [("a", "b"), ("a", "b", "b"), ("a", "b", "c", "d"), ["a", "b", "c"], "abc", ()]:
            self.refuses(InvalidOrder, lambda: bills_along(BOND, BOND_TREE, value))

    def test_webs_without_a_plan(self):
        for web in (ROW, FIVE, EIGHT, BRIDGE, PAIRS):
            self.assertEqual([tree(web), plan(web)], [None, None])
            self.is_false(has_plan(web))
            self.is_false(is_plan(web, {group: Charge({thing: 1 for thing in group})
                                        for group in subsets(web.things) if group}))
            self.is_true(is_kept(DOT, plan(DOT)[("x",)]))


if __name__ == "__main__":
    unittest.main()
