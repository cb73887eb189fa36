"""Stage 7: good webs [0.10] [0.14] [7.1]."""

import unittest
from itertools import combinations

from huebill.bills.charges import Charge, knot_charge
from huebill.bills.exists import has_kept
from huebill.bills.kept import is_kept
from huebill.errors import InvalidGroup, InvalidWeb
from huebill.webs.good import good_paper, is_good, is_good_paper, knot_in, spoiled_group
from huebill.webs.webs import Web, round_web
from tests.helper import (
    BOND, BRIDGE, DOT, EIGHT, EMPTY_EIGHT, FIVE, LETTERS, OTHER_KINDS, RINGS, ROW, Case, all_knots, all_webs, bad_webs,
    good_webs, more_webs, most_in_knots, near_dicts, near_tuples, plain_colours, plain_greatest, plain_parts_of,
    plain_spoiled, ringed_webs, small_webs, some_mixings, some_webs, subsets, mix,
)

SEVEN = RINGS[4]
ORDER = SEVEN.things
# A web with a ring of five things, one with a ring of seven, and one with a turned ring of seven, and one thing more.
WITH_FIVE = round_web(("b", "e", "d", "g", "c"), 1).with_thing("a", beside=("b", "c")).with_thing("f")
WITH_SEVEN = SEVEN.with_thing("h", beside=("a", "b"))
WITH_TURNED = (~SEVEN).with_thing("z", beside=SEVEN.things)


def plain_good_paper(web, value):
    """Whether a pair of a word and a tuple of names, or a dict, of just these kinds, is a paper."""
    word, shown = value
    if word == "good":
        groups = [group for group in subsets(web.things) if group]
        return sorted(shown) == sorted(groups) and all(
            shown[group] in all_knots(web) and set(shown[group]) <= set(group)
            and len(shown[group]) == plain_colours(web, group) for group in groups)
    many = len(shown)
    if len(set(shown)) < many or not set(shown) <= set(web.things):
        return False
    if many not in ((5, 7) if word == "ring" else (7,)):
        return False
    near = {frozenset((shown[at], shown[at - 1])) for at in range(many)}
    tied = {frozenset(pair) for pair in web.conflicts if set(pair) <= set(shown)}
    if word == "turned":
        tied = {frozenset(pair) for pair in combinations(shown, 2)} - tied
    return tied == near


def ways_round(things):
    """A ring told from each thing on, and both ways."""
    for at in range(len(things)):
        turned = things[at:] + things[:at]
        yield turned
        yield turned[::-1]


class Looks(Case):
    def check(self, web):
        found = plain_spoiled(web)
        self.assertEqual(spoiled_group(web), found, str(web))
        self.assertIs(is_good(web), found is None)
        paper = good_paper(web)
        self.assertIs(type(paper), tuple)
        self.assertEqual(paper[0] == "good", found is None)
        self.assertTrue(plain_good_paper(web, paper))
        self.is_true(is_good_paper(web, paper))
        return paper[0]

    def test_small_webs(self):
        words = {self.check(web) for web in small_webs(4)}
        self.assertEqual(words, {"good"})

    def test_all_webs_of_five_things(self):
        words = [self.check(web) for web in all_webs(5)]
        self.assertEqual((words.count("ring"), words.count("good")), (12, 1012))

    def test_rings_with_one_thing_more(self):
        words = {self.check(web) for web in ringed_webs()}
        self.assertEqual(words, {"good", "ring", "turned"})

    def test_more_webs(self):
        for web in list(more_webs()) + list(some_webs(7, 30, 71)) + list(some_webs(8, 30, 72)):
            self.check(web)
            self.assertEqual(is_good(web), is_good(~web))

    def test_rings(self):
        self.assertEqual([is_good(ring) for ring in RINGS], [True, True, False, True, False, True])
        self.assertEqual([is_good(~ring) for ring in RINGS], [True, True, False, True, False, True])
        self.assertEqual([spoiled_group(web) for web in (SEVEN, ~SEVEN, WITH_SEVEN, WITH_TURNED)], [ORDER] * 4)
        self.assertEqual(spoiled_group(WITH_FIVE), ("b", "c", "d", "e", "g"))
        self.assertEqual([good_paper(web)[0] for web in (SEVEN, ~SEVEN, WITH_SEVEN, WITH_TURNED, WITH_FIVE)],
                         ["ring", "turned", "ring", "turned", "ring"])
        two = Web(ORDER, (("a", "b"), ("b", "c"), ("a", "c"), ("d", "e"), ("e", "f"), ("f", "g"), ("d", "g")))
        self.assertEqual([spoiled_group(two), spoiled_group(~two)], [None, None])

    def test_the_first_of_several_groups(self):
        """By the number of things before the order of the names, and ascending among as many things."""
        for web in (EIGHT, EIGHT.renamed(dict(zip(LETTERS, LETTERS[::-1]))), EIGHT.renamed({"a": "h", "h": "a"})):
            spoiled = [group for group in subsets(web.things) if most_in_knots(web, group) < plain_colours(web, group)]
            self.assertGreater(len(spoiled), 8)
            self.assertEqual(spoiled_group(web), min(spoiled, key=lambda group: (len(group), group)))

    def test_parts(self):
        """All parts of a spoiled group but itself are good, its own one has no kept bill."""
        for web, group in bad_webs():
            part = plain_parts_of(web, group)
            self.is_false(has_kept(part))
            self.assertTrue(all(is_good(part.without(thing)) for thing in part))
        for web in good_webs()[::9]:
            for group in list(subsets(web.things))[1::3]:
                self.is_true(is_good(plain_parts_of(web, group)))
                self.is_true(has_kept(plain_parts_of(web, group)))

    def test_kept_bills_are_mixtures(self):
        for web in good_webs():
            for unit, shares in some_mixings(web, 2, unit_seed(web)):
                self.is_true(is_kept(web, mix(web, shares)))

    def test_knot_in(self):
        for web in list(small_webs(4)) + list(some_webs(6, 6, 8)) + [FIVE, EIGHT, BRIDGE, WITH_TURNED]:
            for group in list(subsets(web.things))[1:100]:
                self.assertEqual(knot_in(web, group), plain_greatest(plain_parts_of(web, group))[0])
            self.assertEqual(knot_in(web, ()), ())

    def test_equal_calls(self):
        for web in (FIVE, EIGHT, BOND, WITH_TURNED):
            paper = good_paper(web)
            if paper[0] == "good":
                self.assertEqual(list(paper[1]), sorted(paper[1]))
                good_paper(web)[1].clear()
            self.assertEqual(good_paper(web), paper)


def unit_seed(web):
    return len(web.conflicts)


class Papers(Case):
    def test_rings_from_each_thing_on(self):
        for web, word, things in ((FIVE, "ring", FIVE.things), (SEVEN, "ring", ORDER), (~SEVEN, "turned", ORDER),
                                  (WITH_SEVEN, "ring", ORDER), (WITH_TURNED, "turned", ORDER),
                                  (WITH_FIVE, "ring", ("b", "e", "d", "g", "c"))):
            for way in ways_round(things):
                self.is_true(is_good_paper(web, (word, way)))
                self.is_false(is_good_paper(web, ("turned" if word == "ring" else "ring", way)))
                self.is_false(is_good_paper(web, ("good", way)))
            self.is_false(is_good_paper(web, (word, tuple(sorted(things)[1:]))))

    def test_a_turned_ring_of_five_is_a_ring(self):
        turned = tuple("acebd")
        self.is_true(is_good_paper(~FIVE, ("ring", turned)))
        self.is_false(is_good_paper(~FIVE, ("ring", FIVE.things)))
        self.is_false(is_good_paper(FIVE, ("turned", turned)))
        self.is_false(is_good_paper(~FIVE, ("turned", FIVE.things)))
        self.is_false(is_good_paper(FIVE, ("ring", turned)))

    def test_rings_of_other_lengths(self):
        for ring in RINGS:
            if len(ring) not in (5, 7):
                for way in ways_round(ring.things):
                    for word in ("ring", "turned", "good"):
                        self.is_false(is_good_paper(ring, (word, way)))
                        self.is_false(is_good_paper(~ring, (word, way)))

    def test_values_near_rings(self):
        items = list("abcdefgz") + ["", None, 1, ("a",), ["a"], True]
        for web, word, things in ((FIVE, "ring", FIVE.things), (~SEVEN, "turned", ORDER), (WITH_SEVEN, "ring", ORDER)):
            right = set(ways_round(things))
            for near in near_tuples(things, items):
                known = isinstance(near, tuple) and all(isinstance(thing, str) for thing in near)
                self.assertIs(is_good_paper(web, (word, near)), known and near in right, near)
            for at in range(len(things) - 1):
                swapped = list(things)
                swapped[at], swapped[at + 1] = swapped[at + 1], swapped[at]
                self.is_false(is_good_paper(web, (word, tuple(swapped))))
            for pair in combinations(things, 2):
                changed = web.without_conflict(*pair) if web.are_tied(*pair) else web.with_conflict(*pair)
                self.is_false(is_good_paper(changed, (word, things)))

    def test_values_near_good_papers(self):
        for web in (BOND, ROW, DOT, RINGS[0], Web(("a", "b"), ())):
            knots = good_paper(web)[1]
            items = [group for group in subsets(web.things)] + [("b", "a"), ("z",), "a", ["a"], None, 1, True, {}]
            keys = [(), ("b", "a"), ("z",), "a", None, True, 1, ("a", "a")]
            seen = set()
            for near in near_dicts(knots, keys, items):
                right = isinstance(near, dict) and sorted(near, key=str) == sorted(knots, key=str) and all(
                    isinstance(knot, tuple) for knot in near.values()) and plain_good_paper(web, ("good", near))
                self.assertIs(is_good_paper(web, ("good", near)), right, near)
                seen.add(right)
            self.assertIn(False, seen)
            self.is_true(is_good_paper(web, ("good", dict(reversed(knots.items())))))

    def test_each_knot_of_a_group_serves(self):
        for web in (BOND, ROW, BRIDGE, EMPTY_EIGHT):
            last = {group: plain_greatest(plain_parts_of(web, group))[-1] for group in subsets(web.things) if group}
            self.is_true(is_good_paper(web, ("good", last)))

    def test_no_good_paper_of_a_spoiled_web(self):
        for web, spoiled in bad_webs()[::7]:
            knots = {group: plain_greatest(plain_parts_of(web, group))[0] for group in subsets(web.things) if group}
            self.is_false(is_good_paper(web, ("good", knots)))
            del knots[spoiled]
            self.is_false(is_good_paper(web, ("good", knots)))
        for web in good_webs()[::5]:
            for word in ("ring", "turned"):
                for things in list(combinations(web.things, 5)) + list(combinations(web.things, 7)):
                    self.is_false(is_good_paper(web, (word, things)))

    def test_values_near_papers(self):
        items = OTHER_KINDS + ["ring", "turned", "good", FIVE.things, FIVE]
        for web, right in ((FIVE, ("ring", FIVE.things)), (SEVEN, ("ring", ORDER)), (~SEVEN, ("turned", ORDER))):
            for near in near_tuples(right, items):
                self.assertIs(is_good_paper(web, near), near == right, near)
        right = good_paper(BOND)
        for near in near_tuples(right, items + [right[1]]):
            self.assertIs(is_good_paper(BOND, near), near == right, near)

    def test_values_of_other_kinds(self):
        for value in OTHER_KINDS + [FIVE, Charge({"a": 1}), knot_charge(FIVE, ()), ["ring", FIVE.things]]:
            for web in (FIVE, BOND, ~SEVEN):
                self.is_false(is_good_paper(web, value))
                for word in ("good", "ring", "turned"):
                    self.is_false(is_good_paper(web, (word, value)))


class Refusals(Case):
    def test_no_web(self):
        for value in [value for value in OTHER_KINDS if not isinstance(value, Web)] + [FIVE.things]:
            for call in (is_good, spoiled_group, good_paper):
                self.refuses(InvalidWeb, lambda: call(value))
            self.refuses(InvalidWeb, lambda: is_good_paper(value, None))
            self.refuses(InvalidWeb, lambda: is_good_paper(value, ("ring", FIVE.things)))
            self.refuses(InvalidWeb, lambda: knot_in(value, None))

    def test_no_group(self):
        for value in OTHER_KINDS + [("b", "a"), ("z",), "a", ["a"], ("a", "a"), ("f",)]:
            for web in (FIVE, BOND):
                self.refuses(InvalidGroup, lambda: knot_in(web, value))


if __name__ == "__main__":
    unittest.main()
