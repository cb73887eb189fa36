"""Stage 3: groups, colours and knots [0.7] [0.8]."""

import unittest

from huebill.errors import InvalidGroup, InvalidWeb
from huebill.webs.colours import (
    colouring, colours, colours_of_groups, full_knots, full_loose, greatest_knots, groups, is_colouring, is_enough,
    is_group, is_knot, is_loose, loose_groups,
)
from huebill.webs.webs import Web, round_web
from tests.helper import (
    BOND, BRIDGE, DOT, EIGHT, EMPTY_EIGHT, FIVE, LETTERS, OTHER_KINDS, RINGS, ROW, Case, all_knots, all_loose, big_webs,
    near_tuples, plain_colours, plain_knot, plain_loose, small_webs, some_webs, subsets, tried_colours,
)


def is_plain_group(web, value):
    return isinstance(value, tuple) and value in list(subsets(web.things))


def full_ones(found):
    return tuple(sorted(group for group in found if not any(set(group) < set(other) for other in found)))


def is_plain_colouring(web, group, value):
    """Whether a value of any kind is a colouring, by the words of the document."""
    if not isinstance(value, tuple) or not all(is_plain_group(web, part) and part for part in value):
        return False
    held = sorted(thing for part in value for thing in part)
    if held != sorted(group) or any(one >= other for one, other in zip(value, value[1:])):
        return False
    return all(plain_loose(web, part) for part in value) and len(value) == plain_colours(web, group)


class Groups(Case):
    def test_groups(self):
        for web in (DOT, BOND, ROW, FIVE, EIGHT):
            self.assertEqual(groups(web), tuple(sorted(subsets(web.things))))
        self.assertEqual(groups(DOT), ((), ("x",)))
        self.assertEqual(groups(BOND)[:4], ((), ("a",), ("a", "b"), ("a", "b", "c")))
        self.assertEqual(len(groups(EIGHT)), 256)

    def test_judged_groups(self):
        for web in small_webs(4):
            for group in subsets(web.things):
                self.is_true(is_group(web, group))
                self.assertIs(is_loose(web, group), plain_loose(web, group))
                self.assertIs(is_knot(web, group), plain_knot(web, group))
        for web in (DOT, EIGHT):
            self.is_true(is_group(web, web.things))
            for judge in (is_group, is_loose, is_knot):
                self.is_true(judge(web, ()))
                self.is_true(judge(web, web.things[:1]))
        self.is_true(is_loose(EMPTY_EIGHT, LETTERS))
        self.is_false(is_knot(EMPTY_EIGHT, LETTERS))

    def test_values_near_groups(self):
        items = OTHER_KINDS + ["a", "b", "d", "z", ("a",)]
        for group in subsets(ROW.things):
            for value in near_tuples(group, items):
                right = is_plain_group(ROW, value)
                self.assertIs(is_group(ROW, value), right, value)
                self.assertIs(is_loose(ROW, value), right and plain_loose(ROW, value), value)
                self.assertIs(is_knot(ROW, value), right and plain_knot(ROW, value), value)

    def test_values_of_other_kinds(self):
        for judge in (is_group, is_loose, is_knot):
            for value in OTHER_KINDS + ["a", "ab", ["a"], ("a", "d"), ("b", "a"), ("a", "a"), BOND]:
                self.is_false(judge(BOND, value), value)

    def test_loose_and_full_ones(self):
        webs = list(small_webs(4)) + list(big_webs()) + list(some_webs(5, 60, 1))
        for web in webs:
            loose, knots = all_loose(web), all_knots(web)
            self.assertEqual(loose_groups(web), tuple(sorted(loose)))
            self.assertEqual(full_loose(web), full_ones(loose))
            self.assertEqual(full_knots(web), full_ones(knots))
            most = max(len(knot) for knot in knots)
            self.assertEqual(greatest_knots(web), tuple(sorted(knot for knot in knots if len(knot) == most)))
            self.assertIs(is_enough(web), most == plain_colours(web, web.things))

    def test_one_thing_and_eight(self):
        self.assertEqual([loose_groups(DOT), full_loose(DOT), full_knots(DOT), greatest_knots(DOT)], [(("x",),)] * 4)
        self.assertEqual(full_loose(EMPTY_EIGHT), (LETTERS,))
        self.assertEqual(full_knots(EMPTY_EIGHT), tuple((thing,) for thing in LETTERS))
        self.assertEqual(len(loose_groups(EMPTY_EIGHT)), 255)
        self.assertEqual((len(greatest_knots(EIGHT)), len(greatest_knots(EIGHT)[0])), (8, 3))


class Colours(Case):
    def test_colours_of_small_webs(self):
        for web in list(small_webs(4)) + list(some_webs(5, 40, 2)):
            for group in subsets(web.things):
                many = tried_colours(web, group)
                self.assertEqual(colours(web, group), many)
                self.assertEqual(plain_colours(web, group), many)
            self.assertEqual(colours(web), tried_colours(web, web.things))
            self.assertEqual(colours(web, None), colours(web, web.things))

    def test_colours_of_big_webs(self):
        for web in big_webs():
            for group in list(subsets(web.things))[::7]:
                self.assertEqual(colours(web, group), plain_colours(web, group))
            self.assertEqual(colours(web), plain_colours(web, web.things))
        self.assertEqual([colours(ring) for ring in RINGS], [3, 2, 3, 2, 3, 2])
        self.assertEqual([colours(~ring) for ring in RINGS], [1, 2, 3, 3, 4, 4])
        self.assertEqual([colours(web) for web in (EIGHT, EMPTY_EIGHT, ~EMPTY_EIGHT, DOT)], [4, 1, 8, 1])

    def test_colours_of_all_groups(self):
        for web in list(small_webs(3)) + list(big_webs()):
            found = colours_of_groups(web)
            self.assertEqual(found, {group: plain_colours(web, group) for group in subsets(web.things)})
            self.assertEqual(list(found), sorted(found))

    def test_the_empty_group(self):
        for web in (DOT, EIGHT):
            self.assertEqual((colours(web, ()), colouring(web, ())), (0, ()))
            self.is_true(is_colouring(web, (), ()))
            self.is_false(is_colouring(web, (), ((),)))
            self.is_false(is_colouring(web, web.things, ()))

    def test_colourings(self):
        for web in list(small_webs(4)) + [FIVE, BRIDGE]:
            for group in subsets(web.things):
                found = colouring(web, group)
                self.assertTrue(is_plain_colouring(web, group, found))
                self.is_true(is_colouring(web, group, found))
        for web in big_webs():
            found = colouring(web, web.things)
            self.assertTrue(is_plain_colouring(web, web.things, found))
            self.is_true(is_colouring(web, web.things, found))

    def test_every_colouring_is_accepted(self):
        many = 0
        for web in small_webs(4):
            parts = all_loose(web)
            for told in subsets(sorted(parts)):
                if len(told) <= len(web):
                    right = is_plain_colouring(web, web.things, told)
                    self.assertIs(is_colouring(web, web.things, told), right)
                    many += right
        self.assertGreater(many, 75)

    def test_values_near_colourings(self):
        parts = list(subsets(ROW.things)) + OTHER_KINDS + [["a"], ("b", "a"), ("z",), "a", ("a", "a")]
        for group in subsets(ROW.things):
            for value in near_tuples(colouring(ROW, group), parts):
                self.assertIs(is_colouring(ROW, group, value), is_plain_colouring(ROW, group, value), value)
        self.is_false(is_colouring(BOND, ("a", "b", "c"), (("b",), ("a", "c"))))
        self.is_false(is_colouring(BOND, ("a", "b"), (("a",), ("b",))))
        self.is_true(is_colouring(BOND, ("a", "b", "c"), (("a", "c"), ("b",))))

    def test_values_of_other_kinds(self):
        for group in ((), ("a",), ("a", "b", "c")):
            for value in OTHER_KINDS + ["a", "abc", ("a",), ("a", "b", "c")]:
                self.is_false(is_colouring(BOND, group, value), value)


class Refusals(Case):
    def test_no_web(self):
        calls = [groups, loose_groups, full_loose, full_knots, greatest_knots, colours, is_enough]
        for value in [value for value in OTHER_KINDS if not isinstance(value, Web)]:
            for call in calls:
                self.refuses(InvalidWeb, lambda: call(value))
            for call in (is_group, is_loose, is_knot):
                self.refuses(InvalidWeb, lambda: call(value, ()))
                self.refuses(InvalidWeb, lambda: call(value, None))
            for group in ((), None, 3):
                self.refuses(InvalidWeb, lambda: colours(value, group))
                self.refuses(InvalidWeb, lambda: colouring(value, group))
                self.refuses(InvalidWeb, lambda: is_colouring(value, group, None))

    def test_no_group(self):
        for value in OTHER_KINDS + [("b", "a"), ("z",), "a", ["a"], ("a", "a")]:
            if value is not None:
                self.refuses(InvalidGroup, lambda: colours(BOND, value))
            self.refuses(InvalidGroup, lambda: colouring(BOND, value))
            self.refuses(InvalidGroup, lambda: is_colouring(BOND, value, ()))

    def test_rings_turned_round_have_equal_answers(self):
        turned = round_web(tuple("cdeab"), 1)
        self.assertEqual([full_loose(turned), full_knots(turned), colouring(turned, turned.things)],
                         [full_loose(FIVE), full_knots(FIVE), colouring(FIVE, FIVE.things)])


if __name__ == "__main__":
    unittest.main()
