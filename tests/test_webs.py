"""Stage 2: webs [0.7]."""

import unittest
from itertools import combinations, permutations

from huebill.errors import InvalidGroup, InvalidName, InvalidNumber, InvalidOperation, InvalidWeb, TooMany, UnknownName
from huebill.webs.webs import Web, round_web, row_web
from tests.helper import (
    BOND, BRIDGE, DOT, EIGHT, EMPTY_EIGHT, FIVE, LETTERS, NOT_NAMES, NOT_THINGS, OTHER_KINDS, ROW, Case, plain_loose,
    small_webs, subsets,
)


class Making(Case):
    def test_told_in_any_order(self):
        pairs = (("a", "b"), ("b", "c"), ("b", "d"))
        for things in permutations("abcd"):
            for told in permutations(pairs):
                web = Web(things, told)
                self.assertEqual(web.things, ("a", "b", "c", "d"))
                self.assertEqual(web.conflicts, pairs)

    def test_conflicts_turned_round_and_repeated(self):
        web = Web(("c", "a", "b"), (("c", "b"), ("b", "c"), ("a", "b"), ("c", "b")))
        self.assertEqual(web.conflicts, (("a", "b"), ("b", "c")))

    def test_one_thing_and_eight(self):
        self.assertEqual((DOT.things, DOT.conflicts), (("x",), ()))
        whole = Web(LETTERS, tuple(combinations(LETTERS, 2)))
        self.assertEqual((len(whole), len(whole.conflicts)), (8, 28))
        self.assertEqual(Web(("abcdefgh",), ()).things, ("abcdefgh",))

    def test_none_and_nine(self):
        self.refuses(InvalidWeb, lambda: Web((), ()))
        self.refuses(InvalidWeb, lambda: Web(tuple("abcdefghi"), ()))

    def test_things_of_other_kinds(self):
        for value in NOT_THINGS + ["a", "abc", ["a"], {"a": 1}, DOT, ("a", "b", "a")]:
            self.refuses(InvalidWeb, lambda: Web(value, ()))
            self.refuses(InvalidWeb, lambda: Web(value, None))

    def test_things_spoiled_at_one_place(self):
        for at in range(8):
            for value in NOT_NAMES + [LETTERS[at - 1]]:
                things = LETTERS[:at] + (value,) + LETTERS[at + 1:]
                self.refuses(InvalidWeb, lambda: Web(things, ()))

    def test_conflicts_of_other_kinds(self):
        for value in OTHER_KINDS + [("a", "b"), [("a", "b")], {("a", "b"): 1}, "ab"]:
            self.refuses(InvalidWeb, lambda: Web(("a", "b"), value))

    def test_conflicts_spoiled_at_one_place(self):
        good = (("a", "b"), ("b", "c"), ("c", "d"))
        wrong = [("a",), ("a", "b", "c"), ("a", "a"), ("a", "e"), ("e", "a"), ["a", "b"], "ab", {"a": "b"}, ()]
        for at in range(3):
            for value in OTHER_KINDS + wrong:
                if value != ("b", "a"):
                    told = good[:at] + (value,) + good[at + 1:]
                    self.refuses(InvalidWeb, lambda: Web(tuple("abcd"), told))
            for value in OTHER_KINDS:
                for pair in ((value, good[at][1]), (good[at][0], value)):
                    told = good[:at] + (pair,) + good[at + 1:]
                    self.refuses(InvalidWeb, lambda: Web(tuple("abcd"), told))


class Asking(Case):
    def test_beside_and_are_tied(self):
        for web in small_webs(4):
            for one in web.things:
                self.assertEqual(web.beside(one), tuple(
                    other for other in web.things if other != one and not plain_loose(web, sorted((one, other)))))
                for other in web.things:
                    self.assertIs(web.are_tied(one, other), other in web.beside(one))
                self.is_false(web.are_tied(one, one))

    def test_unknown_things(self):
        for value in OTHER_KINDS + ["d", "aa"]:
            self.refuses(UnknownName, lambda: BOND.beside(value), value)
            self.refuses(UnknownName, lambda: BOND.are_tied(value, "a"), value)
            self.refuses(UnknownName, lambda: BOND.are_tied("a", value), value)
            self.refuses(UnknownName, lambda: BOND.are_tied(value, "q"), value)
            self.refuses(UnknownName, lambda: BOND.with_conflict(value, "q"), value)
            self.refuses(UnknownName, lambda: BOND.with_conflict("a", value), value)
            self.refuses(UnknownName, lambda: BOND.without_conflict(value, "q"), value)
            self.refuses(UnknownName, lambda: BOND.without_conflict("a", value), value)
            self.refuses(UnknownName, lambda: BOND.without("a", value, "q"), value)
            self.refuses(UnknownName, lambda: BOND.without("a", "b", "c", value), value)

    def test_in_len_and_iteration(self):
        self.assertEqual([list(BOND), tuple(EIGHT), len(BOND), len(EIGHT)], [["a", "b", "c"], LETTERS, 3, 8])
        for thing in "abc":
            self.is_true(thing in BOND)
        for value in OTHER_KINDS + ["d", "aa", ("a",), BOND]:
            self.is_false(value in BOND)
            self.is_true(value not in BOND)
        self.assertEqual([(one, other) for one in DOT for other in DOT], [("x", "x")])

    def test_equal(self):
        same = Web(("c", "b", "a"), (("c", "b"), ("b", "c")))
        self.is_true(BOND == same)
        self.is_false(BOND != same)
        others = [~BOND, BOND.without_conflict("b", "c"), BOND.without("a"), BOND.renamed({"a": "d"}), str(BOND),
                  BOND.things, BOND.conflicts, (BOND.things, BOND.conflicts), ["a", "b", "c"]]
        for value in OTHER_KINDS + others:
            self.is_false(BOND == value)
            self.is_true(BOND != value)
            self.is_false(value == BOND)

    def test_text(self):
        self.assertEqual([str(BOND), str(DOT), str(Web(("b", "a"), ()))],
                         ["web of a b c: b-c", "web of x: -", "web of a b: -"])
        self.assertEqual(str(Web(("road", "b", "c"), (("road", "b"), ("c", "b")))), "web of b c road: b-c b-road")


class Changing(Case):
    def tearDown(self):
        self.assertEqual([str(web) for web in (BOND, ROW, FIVE)], [
            "web of a b c: b-c", "web of a b c d: a-b b-c c-d", "web of a b c d e: a-b a-e b-c c-d d-e"])

    def test_with_and_without_conflict(self):
        self.assertEqual(BOND.with_conflict("c", "a").conflicts, (("a", "c"), ("b", "c")))
        self.assertEqual(BOND.with_conflict("a", "c"), BOND.with_conflict("c", "a"))
        self.assertEqual(BOND.without_conflict("b", "c").conflicts, ())
        self.assertEqual(FIVE.without_conflict("e", "a").conflicts, row_web(tuple("abcde")).conflicts)

    def test_conflicts_that_cannot_be(self):
        self.refuses(InvalidOperation, lambda: BOND.with_conflict("a", "a"))
        self.refuses(InvalidOperation, lambda: BOND.with_conflict("c", "b"))
        self.refuses(InvalidOperation, lambda: BOND.with_conflict("b", "c"))
        self.refuses(InvalidOperation, lambda: BOND.without_conflict("b", "b"))
        self.refuses(InvalidOperation, lambda: BOND.without_conflict("a", "b"))
        self.refuses(UnknownName, lambda: BOND.with_conflict("z", "z"), "z")
        self.refuses(UnknownName, lambda: BOND.without_conflict("z", "z"), "z")

    def test_with_thing(self):
        self.assertEqual(str(BOND.with_thing("d", beside=("a", "b"))), "web of a b c d: a-d b-c b-d")
        self.assertEqual(str(BOND.with_thing("d")), "web of a b c d: b-c")
        self.assertEqual(str(BOND.with_thing("aa", beside=("a",))), "web of a aa b c: a-aa b-c")
        self.assertEqual(len(EIGHT.without("a").with_thing("zzzzzzzz")), 8)

    def test_with_thing_refuses(self):
        for value in NOT_NAMES:
            self.refuses(InvalidName, lambda: BOND.with_thing(value))
            self.refuses(InvalidName, lambda: EIGHT.with_thing(value, beside=None))
        for value in OTHER_KINDS + [("b", "a"), ("z",), ("a", "z"), "a", ["a"]]:
            self.refuses(InvalidGroup, lambda: BOND.with_thing("z", beside=value))
            self.refuses(InvalidGroup, lambda: EIGHT.with_thing("a", beside=value))
        self.refuses(InvalidOperation, lambda: BOND.with_thing("a", beside=("b",)))
        self.refuses(InvalidOperation, lambda: EIGHT.with_thing("a"))
        self.refuses(TooMany, lambda: EIGHT.with_thing("i"), 8)
        self.refuses(TooMany, lambda: EMPTY_EIGHT.with_thing("i", beside=("a", "b")), 8)
        with self.assertRaises(TypeError):
            BOND.with_thing("d", ("a",))

    def test_without(self):
        self.assertEqual(BOND.without(), BOND)
        self.assertEqual(str(BOND.without("a")), "web of b c: b-c")
        self.assertEqual(str(BOND.without("c", "a", "c", "c")), "web of b: -")
        self.assertEqual(FIVE.without("c").conflicts, (("a", "b"), ("a", "e"), ("d", "e")))
        self.refuses(InvalidOperation, lambda: BOND.without("c", "b", "a"))
        self.refuses(InvalidOperation, lambda: BOND.without("a", "a", "b", "b", "c"))
        self.refuses(InvalidOperation, lambda: DOT.without("x"))
        self.refuses(UnknownName, lambda: BOND.without("x", "y"), "x")
        self.refuses(UnknownName, lambda: BOND.without(("a", "b")), ("a", "b"))

    def test_part(self):
        for web in list(small_webs(3)) + [FIVE, BRIDGE]:
            for group in subsets(web.things):
                if group:
                    part = web.part(group)
                    self.assertEqual(part.things, group)
                    self.assertEqual(part.conflicts, tuple(pair for pair in web.conflicts if set(pair) <= set(group)))
        self.refuses(InvalidOperation, lambda: BOND.part(()))
        for value in OTHER_KINDS + [("b", "a"), ("d",), "a", ["a"], ("a", "a")]:
            self.refuses(InvalidGroup, lambda: BOND.part(value))

    def test_turned(self):
        for web in list(small_webs(4)) + [EIGHT]:
            turned = ~web
            self.assertEqual(turned.things, web.things)
            self.assertEqual(turned, web.turned())
            self.assertEqual(~turned, web)
            self.assertEqual(sorted(turned.conflicts + web.conflicts), list(combinations(web.things, 2)))

    def test_renamed(self):
        self.assertEqual(str(ROW.renamed({"a": "d", "d": "a"})), "web of a b c d: a-c b-c b-d")
        self.assertEqual(str(ROW.renamed({"a": "b", "b": "c", "c": "a"})), "web of a b c d: a-c a-d b-c")
        self.assertEqual(str(BOND.renamed({"b": "road"})), "web of a c road: c-road")
        self.assertEqual(BOND.renamed({}), BOND)
        self.assertEqual(BOND.renamed({"a": "a"}), BOND)
        self.assertEqual(ROW.renamed({"d": "a", "a": "d"}), ROW.renamed({"a": "d", "d": "a"}))

    def test_renamed_refuses(self):
        for value in OTHER_KINDS + [(("a", "x"),), [("a", "x")], {"a": "b"}, {"a": "c", "c": "c"}, {"d": "x"}]:
            if value != {}:
                self.refuses(InvalidOperation, lambda: BOND.renamed(value))
        for value in NOT_NAMES:
            self.refuses(InvalidOperation, lambda: BOND.renamed({"b": "x", "a": value}))
        for key in (1, None, True, (), ("a",), "d", ""):
            self.refuses(InvalidOperation, lambda: BOND.renamed({"a": "x", key: "y"}))
        self.refuses(InvalidOperation, lambda: BOND.renamed({"a": "x", "b": "x"}))


class Rings(Case):
    def test_no_step(self):
        self.assertEqual(round_web(("b", "a")), Web(("a", "b"), ()))
        self.assertEqual(round_web(LETTERS), EMPTY_EIGHT)

    def test_steps(self):
        self.assertEqual(round_web(("c", "a", "b", "d"), 1).conflicts, (("a", "b"), ("a", "c"), ("b", "d"), ("c", "d")))
        for many in range(1, 9):
            names = LETTERS[:many]
            for steps in [(1,), (2,), (3,), (7,), (1, 2), (2, 1), (1, 1), (4, 3), (1, 2, 3, 4, 5, 6, 7)]:
                found = round_web(names, *steps)
                pairs = [
                    (names[one], names[other]) for one, other in combinations(range(many), 2)
                    if any((other - one - step) % many == 0 or (one - other - step) % many == 0 for step in steps)
                ]
                self.assertEqual((found.things, found.conflicts), (names, tuple(pairs)))

    def test_turned_round(self):
        for start in range(5):
            turned = tuple("abcde"[start:] + "abcde"[:start])
            self.assertEqual(round_web(turned, 1), FIVE)
            self.assertEqual(round_web(turned[::-1], 1), FIVE)
        self.assertEqual(round_web(tuple("abcde"), 4), FIVE)
        self.assertEqual(round_web(tuple("abcde"), 2), ~FIVE)

    def test_a_step_to_itself(self):
        self.assertEqual(round_web(("a",), 1), Web(("a",), ()))
        self.assertEqual(round_web(("a", "b", "c"), 3), Web(("a", "b", "c"), ()))
        self.assertEqual(round_web(("a", "b"), 4, 3), Web(("a", "b"), (("a", "b"),)))

    def test_rows(self):
        self.assertEqual(row_web(("a",)), Web(("a",), ()))
        self.assertEqual(row_web(("b", "a")).conflicts, (("a", "b"),))
        self.assertEqual(row_web(("c", "a", "b")).conflicts, (("a", "b"), ("a", "c")))
        self.assertEqual(len(row_web(LETTERS).conflicts), 7)

    def test_wrong_names(self):
        for value in NOT_THINGS + ["ab", ["a", "b"], ("a", "b", "a"), tuple("abcdefghi"), (), FIVE, {"a": "b"}]:
            self.refuses(InvalidWeb, lambda: round_web(value, 1))
            self.refuses(InvalidWeb, lambda: round_web(value, 0))
            self.refuses(InvalidWeb, lambda: row_web(value))
        for at in range(5):
            for value in NOT_NAMES:
                names = tuple("abcde"[:at]) + (value,) + tuple("abcde"[at + 1:])
                self.refuses(InvalidWeb, lambda: round_web(names, 1))
                self.refuses(InvalidWeb, lambda: row_web(names))

    def test_wrong_steps(self):
        wrong = [value for value in OTHER_KINDS if not (type(value) is int and 1 <= value <= 7)]
        for value in wrong + [8, 9, 10 ** 59]:
            self.refuses(InvalidNumber, lambda: round_web(("a", "b"), value), value)
            self.refuses(InvalidNumber, lambda: round_web(("a", "b"), 7, value, 0), value)


if __name__ == "__main__":
    unittest.main()
