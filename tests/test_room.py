"""Stage 17: rooms against a plain record of the test's own [17.1] [17.2]."""

import random
import unittest
from fractions import Fraction
from itertools import combinations, product

from huebill.bills.charges import Charge, knot_charge
from huebill.errors import (
    Broken, InvalidGroup, InvalidName, InvalidNumber, InvalidOperation, InvalidWeb, NothingToUndo, TooMany, UnknownName,
)
from huebill.orders.orders import order_bill
from huebill.plans.plans import has_plan, plan
from huebill.room.room import HOLD_WORDS, MAX_HOLDS, Room, is_along, is_hold
from huebill.webs.webs import Web, row_web
from tests.helper import (
    BOND, BRIDGE, DOT, EIGHT, EMPTY_EIGHT, FIVE, LETTERS, LONG, LONGEST, NOT_NAMES, OTHER_KINDS, RINGS, ROW, Case,
    charge_of, near_tuples, plain_along, plain_hold_is_true, plain_name, plain_parts_of, sided_web, small_webs,
    some_charges, some_webs, subsets,
)

WORDS = ("enough", "exact", "good", "kept", "planned", "shrinking", "steady")
PAIR = Web(("a", "b"), ())
HOLDS = list(WORDS) + [("colours", many) for many in range(1, 9)] + [
    ("loose", ()), ("loose", ("a",)), ("loose", ("a", "b")), ("loose", ("b", "c", "zz")), ("loose", ("a", "d", "e")),
    ("loose", ("x", "y")), ("loose", tuple("abcdefghijkl")),
]
WRONG_HOLDS = [
    "round", "", "Good", "good ", "colours", "loose", ("good",), ["good"], ("colours",), ("colours", 0), ("colours", 9),
    ("colours", -1), ("colours", True), ("colours", None), ("colours", "2"), ("colours", (2,)), ("colours", 2, 2),
    ("colours", LONG), ["colours", 2], ("loose",), ("loose", ["a", "b"]), ("loose", ("b", "a")), ("loose", ("a", "a")),
    ("loose", ("A",)), ("loose", ("a", 1)), ("loose", "a"), ("loose", None), ("loose", ("",)), ("loose", ("abcdefghi",)),
    ("loose", ("a",), ("b",)), ("loose", (("a",),)), ("Loose", ()), ("good", "kept"), {"colours": 2}, (("colours", 2),),
    ("knot", ("a",)), ("loose", {}), ("loose", {"a": 1}), (2, "colours"), ("colours", [2]), (None, None), ((), ()),
]


class Record:
    """What a room is, and was, in plain lists: a tuple of things, a frozenset of pairs, and a dict of holds."""

    def __init__(self, web):
        self.now = (web.things, frozenset(web.conflicts), {})
        self.past = []
        self.ahead = []

    def web(self):
        return Web(self.now[0], tuple(self.now[1]))

    def twin(self):
        other = Record(DOT)
        other.now, other.past, other.ahead = self.now, list(self.past), list(self.ahead)
        return other

    def step(self, now):
        self.past.append(self.now)
        self.now = now
        self.ahead = []

    def become(self, things, ties):
        web = Web(things, tuple(ties))
        for label in sorted(self.now[2]):
            if not plain_hold_is_true(web, self.now[2][label]):
                return Broken, label
        self.step((things, frozenset(ties), self.now[2]))
        return None

    def come(self, name, beside=()):
        things, ties, _ = self.now
        if not plain_name(name):
            return InvalidName, None
        if not isinstance(beside, tuple) or list(beside) != sorted(set(beside)) or not set(beside) <= set(things):
            return InvalidGroup, None
        if name in things:
            return InvalidOperation, None
        if len(things) == 8:
            return TooMany, 8
        return self.become(things + (name,), ties | {tuple(sorted((name, one))) for one in beside})

    def go(self, *names):
        things, ties, _ = self.now
        for name in names:
            if name not in things:
                return UnknownName, name
        left = tuple(thing for thing in things if thing not in names)
        if not left:
            return InvalidOperation, None
        return self.become(left, {pair for pair in ties if set(pair) <= set(left)})

    def tied(self, one, other, there):
        things, ties, _ = self.now
        for name in (one, other):
            if name not in things:
                return UnknownName, name
        if one == other or (tuple(sorted((one, other))) in ties) != there:
            return InvalidOperation, None
        return self.become(things, ties ^ {tuple(sorted((one, other)))})

    def tie(self, one, other):
        return self.tied(one, other, False)

    def untie(self, one, other):
        return self.tied(one, other, True)

    def turn(self):
        things, ties, _ = self.now
        return self.become(things, set(combinations(sorted(things), 2)) - ties)

    def hold(self, label, hold):
        things, ties, holds = self.now
        if not plain_name(label):
            return InvalidName, None
        if hold not in HOLDS or label in holds:
            return InvalidOperation, None
        if len(holds) == 8:
            return TooMany, 8
        if not plain_hold_is_true(self.web(), hold):
            return Broken, label
        self.step((things, ties, {**holds, label: hold}))
        return None

    def release(self, label):
        things, ties, holds = self.now
        if label not in holds:
            return UnknownName, label
        self.step((things, ties, {one: holds[one] for one in holds if one != label}))
        return None

    def back(self, start, end, many):
        if many < 0:
            return InvalidNumber, many
        if many > len(start):
            return NothingToUndo, many
        for _ in range(many):
            end.append(self.now)
            self.now = start.pop()
        return None

    def undo(self, many=1):
        return self.back(self.past, self.ahead, many)

    def redo(self, many=1):
        return self.back(self.ahead, self.past, many)


def drawn_call(luck, record):
    """The name of a call with its arguments by position and by keyword; some are wrong."""
    things = record.now[0]
    names = list(things) + luck.sample(LETTERS, 2) + ["zz"]
    kind = luck.choice(("come", "come", "come", "go", "tie", "tie", "untie", "untie", "turn", "hold", "hold", "release",
                        "undo", "undo", "redo", "redo"))
    if kind == "come":
        beside = tuple(thing for thing in sorted(things) if luck.random() < 0.5)
        if luck.random() < 0.1:
            beside = luck.choice((beside[::-1], ("zz",), beside + beside, beside + ("zz",), ("a", "b")))
        return kind, (luck.choice(tuple("abcdefghij") if luck.random() < 0.95 else ("A", "")),), {"beside": beside}
    if kind == "go":
        return kind, tuple(luck.choices(names, k=luck.choice((0, 1, 1, 1, 2, 3)))), {}
    if kind in ("tie", "untie"):
        return kind, tuple(luck.choices(names, k=2)), {}
    if kind == "turn":
        return kind, (), {}
    if kind == "hold":
        label = luck.choice(("p", "q", "r", "s", "t", "u", "v", "w", "x", "y"))
        return kind, (label if luck.random() < 0.97 else "P", luck.choice(HOLDS + ["round", ("colours", 9)])), {}
    if kind == "release":
        return kind, (luck.choice(list(record.now[2]) + ["p", "o"]),), {}
    return kind, (), luck.choice(({}, {}, {"many": luck.randint(0, 4)}, {"many": -1}))


class Rooms(Case):
    def same(self, room, record):
        """Whether the room is what the record says, also in what can be undone and done again."""
        things, ties, holds = record.now
        self.assertEqual(room.web, record.web())
        self.assertEqual((room.things, list(room), len(room)), (things, list(things), len(things)))
        self.assertEqual((room.labels, room.holds), (tuple(sorted(holds)), holds))
        self.assertEqual(list(room.holds), sorted(holds))
        self.assertEqual(str(room), f"room of {' '.join(things)}: {len(holds)} holds")
        self.assertEqual((room.undo(many=0), room.redo(many=0)), (len(record.past), len(record.past)))
        self.refuses(NothingToUndo, lambda: room.undo(many=len(record.past) + 1), len(record.past) + 1)
        self.refuses(NothingToUndo, lambda: room.redo(many=len(record.ahead) + 1), len(record.ahead) + 1)

    def play(self, room, record, call):
        """Does a call with a room and with its record, and compares what becomes of them."""
        name, told, more = call
        wrong = getattr(record, name)(*told, **more)
        if wrong is None:
            answer = getattr(room, name)(*told, **more)
            self.assertEqual(answer, len(record.past) if name in ("undo", "redo") else None)
        elif wrong[1] is None:
            self.refuses(wrong[0], lambda: getattr(room, name)(*told, **more))
        else:
            self.refuses(wrong[0], lambda: getattr(room, name)(*told, **more), wrong[1])
        self.same(room, record)
        return "done" if wrong is None else wrong[0]

    def history(self, room, record, luck, many):
        return [self.play(room, record, drawn_call(luck, record)) for _ in range(many)]


class Histories(Rooms):
    def test_long_histories(self):
        seen = []
        for seed, web in enumerate([DOT, BOND, ROW, FIVE, BRIDGE, EMPTY_EIGHT, sided_web(2, 2, 1), PAIR]):
            room, record = Room(web), Record(web)
            self.same(room, record)
            seen += self.history(room, record, random.Random(seed), 400)
        self.assertEqual({"done", Broken, NothingToUndo, InvalidOperation, InvalidGroup, InvalidName, UnknownName,
                          TooMany, InvalidNumber} - set(seen), set())
        self.assertGreater(seen.count("done"), 300)
        self.assertGreater(seen.count(Broken), 50)

    def test_without_holds(self):
        for seed in range(4):
            room, record, luck = Room(ROW), Record(ROW), random.Random(100 + seed)
            for _ in range(120):
                call = drawn_call(luck, record)
                while call[0] in ("hold", "release"):
                    call = drawn_call(luck, record)
                self.play(room, record, call)

    def test_back_to_the_beginning_and_to_the_end(self):
        room, record = Room(BOND), Record(BOND)
        luck = random.Random(7)
        self.history(room, record, luck, 100)
        self.play(room, record, ("redo", (), {"many": len(record.ahead)}))
        steps = len(record.past)
        self.play(room, record, ("undo", (), {"many": steps}))
        self.assertEqual(room, Room(BOND))
        for left in range(steps):
            self.assertEqual(room.redo(), left + 1)
            record.redo()
            self.same(room, record)
        self.assertEqual(room.undo(many=steps), 0)
        self.assertEqual(room.redo(many=steps), steps)

    def test_coming_again(self):
        room = Room(Web(("c", "a", "b"), (("c", "b"),)))
        self.assertEqual(room.things, ("a", "b", "c"))
        room.go("a")
        room.come("a", beside=("c",))
        room.come("aa")
        self.assertEqual((room.things, room.web.things), (("b", "c", "a", "aa"), ("a", "aa", "b", "c")))
        self.assertEqual(str(room.web), "web of a aa b c: a-c b-c")
        self.assertEqual(list(room), ["b", "c", "a", "aa"])
        room.go("c", "b", "c")
        self.assertEqual((str(room), room.undo()), ("room of a aa: 0 holds", 3))

    def test_calls_that_change_nothing_can_be_taken_back(self):
        room = Room(ROW)
        room.turn()
        self.assertEqual(room.undo(), 0)
        room.go()
        # Redoing has ended, although nothing was changed.
        self.refuses(NothingToUndo, lambda: room.redo(), 1)
        self.assertEqual((room.undo(), room.redo(), room), (0, 1, Room(ROW)))

    def test_refused_calls_end_nothing(self):
        room = Room(ROW)
        room.turn()
        room.undo()
        for call in (lambda: room.go("a", "b", "c", "d"), lambda: room.come("a"), lambda: room.tie("a", "a"),
                     lambda: room.untie("a", "c"), lambda: room.hold("x", "planned"), lambda: room.release("x"),
                     lambda: room.hold("x", None), lambda: room.come("e", beside=["a"]), lambda: room.undo(),
                     lambda: room.undo(many=None), lambda: room.redo(many=2), lambda: room.go("z"),
                     lambda: room.would_break(None), lambda: room.along()):
            with self.assertRaises(Exception):
                call()
            self.assertEqual((str(room), room.holds, room.undo(many=0)), ("room of a b c d: 0 holds", {}, 0))
        self.assertEqual((room.redo(), room.web), (1, ~ROW))

    def test_numbers_of_undo_and_redo(self):
        room = Room(ROW)
        for _ in range(3):
            room.turn()
        for value in OTHER_KINDS:
            if type(value) is not int or not 0 <= value < LONG:
                self.refuses(InvalidNumber, lambda: room.undo(many=value), value)
                self.refuses(InvalidNumber, lambda: room.redo(many=value), value)
        for many in (4, 5, LONGEST):
            self.refuses(NothingToUndo, lambda: room.undo(many=many), many)
            self.refuses(NothingToUndo, lambda: room.redo(many=many), many)
        self.assertEqual([room.undo(many=2), room.redo(), room.undo(many=0), room.redo(many=0), room.redo()],
                         [1, 2, 2, 2, 3])


class Holds(Rooms):
    def test_constants(self):
        self.assertEqual((HOLD_WORDS, MAX_HOLDS), (WORDS, 8))

    def test_is_hold(self):
        for hold in HOLDS + [("loose", tuple(sorted(f"n{one}{other}" for one, other in product("abcdefg", repeat=2))))]:
            self.is_true(is_hold(hold))
        for value in WRONG_HOLDS + [value for value in OTHER_KINDS if value not in WORDS]:
            self.is_false(is_hold(value), value)
        for near in near_tuples(("colours", 2), OTHER_KINDS + [0, 1, 8, 9, "loose", "colours"]):
            right = isinstance(near, tuple) and len(near) == 2 and near[0] == "colours" and type(
                near[1]) is int and 1 <= near[1] <= 8
            self.assertIs(is_hold(near), right, near)
        for near in near_tuples(("a", "b", "zz"), ["a", "b", "c", "zz", "", "A", None, 1]):
            right = isinstance(near, tuple) and all(isinstance(name, str) for name in near) and all(
                plain_name(name) for name in near) and list(near) == sorted(set(near))
            self.assertIs(is_hold(("loose", near)), right, near)

    def test_which_holds_are_true(self):
        seen = set()
        for web in list(small_webs(3)) + list(some_webs(5, 12, 171)) + [ROW, FIVE, EIGHT, BRIDGE, RINGS[4], ~EMPTY_EIGHT]:
            for hold in HOLDS:
                room = Room(web)
                if plain_hold_is_true(web, hold):
                    room.hold("x", hold)
                    self.assertEqual((room.holds, room.web), ({"x": hold}, web))
                else:
                    self.refuses(Broken, lambda: room.hold("x", hold), "x")
                    self.assertEqual(room, Room(web))
                seen.add((hold, plain_hold_is_true(web, hold)))
        # Each web has at most eight colours, the empty group is loose, and names that are no things are in no conflict.
        always = {("colours", 8), ("loose", ()), ("loose", ("a",)), ("loose", ("x", "y"))}
        self.assertEqual({hold for hold in HOLDS if (hold, False) not in seen} - always, set())

    def test_names_that_are_no_things(self):
        room = Room(PAIR)
        room.hold("far", ("loose", ("a", "d", "e")))
        room.tie("a", "b")
        self.refuses(Broken, lambda: room.come("d", beside=("a",)), "far")
        room.come("d", beside=("b",))
        self.refuses(Broken, lambda: room.come("e", beside=("d",)), "far")
        room.come("c", beside=("a", "b", "d"))
        self.refuses(Broken, lambda: room.turn(), "far")
        room.go("d")
        room.go("a")
        self.assertEqual(str(room), "room of b c: 1 holds")

    def test_the_first_label_that_is_broken(self):
        room = Room(PAIR)
        for label in ("d", "b", "c"):
            room.hold(label, ("colours", 1))
        room.hold("a", "good")
        self.refuses(Broken, lambda: room.tie("a", "b"), "b")
        room.release("b")
        self.refuses(Broken, lambda: room.tie("a", "b"), "c")
        self.refuses(Broken, lambda: room.turn(), "c")
        self.assertEqual(room.would_break(ROW), ("c", "d"))
        self.assertEqual(room.would_break(FIVE), ("a", "c", "d"))
        self.assertEqual(room.would_break(PAIR), ())
        self.assertEqual((room.labels, room.undo(many=0)), (("a", "c", "d"), 5))

    def test_would_break(self):
        luck = random.Random(8)
        for _ in range(20):
            room = Room(DOT)
            told = {label: luck.choice(HOLDS) for label in luck.sample("pqrstuvwxyz", luck.randint(0, 6))}
            for label, hold in told.items():
                room.hold(label, hold)
            for web in some_webs(luck.randint(2, 6), 4, luck.randint(1, 99)):
                self.assertEqual(room.would_break(web), tuple(sorted(
                    label for label in told if not plain_hold_is_true(web, told[label]))))
        for value in [value for value in OTHER_KINDS if not isinstance(value, Web)] + [room, BOND.things]:
            self.refuses(InvalidWeb, lambda: room.would_break(value))

    def test_holds_in_the_order_of_the_checks(self):
        room = Room(FIVE)
        for at in range(8):
            room.hold("abcdefgh"[at], ("colours", 8 - at % 5))
        before = room.twin()
        for label in NOT_NAMES:
            self.refuses(InvalidName, lambda: room.hold(label, None))
            self.refuses(InvalidName, lambda: room.hold(label, "good"))
        for hold in WRONG_HOLDS + [value for value in OTHER_KINDS if value not in WORDS]:
            self.refuses(InvalidOperation, lambda: room.hold("x", hold))
            self.refuses(InvalidOperation, lambda: room.hold("a", hold))
        # There is such a label, there are eight holds, and it would not be true.
        self.refuses(InvalidOperation, lambda: room.hold("a", "good"))
        self.refuses(TooMany, lambda: room.hold("x", "good"), 8)
        room.release("h")
        self.refuses(InvalidOperation, lambda: room.hold("a", "good"))
        self.refuses(Broken, lambda: room.hold("x", "good"), "x")
        room.undo()
        self.assertEqual((room, room.undo(many=0)), (before, 8))

    def test_release(self):
        room = Room(BOND)
        room.hold("two", ("colours", 2))
        for value in [value for value in OTHER_KINDS] + ["one", "Two", "tw", ("two",), ["two"]]:
            self.refuses(UnknownName, lambda: room.release(value), value)
        room.release("two")
        self.refuses(UnknownName, lambda: room.release("two"), "two")
        room.turn()
        self.assertEqual((room.undo(many=2), room.labels, room.redo(), room.labels), (1, ("two",), 2, ()))

    def test_errors_before_broken_holds(self):
        room = Room(EMPTY_EIGHT.without("h"))
        room.hold("one", ("colours", 1))
        self.refuses(Broken, lambda: room.come("x", beside=("a",)), "one")
        self.refuses(InvalidName, lambda: room.come("X", beside=["a"]))
        self.refuses(InvalidGroup, lambda: room.come("a", beside=("b", "a")))
        self.refuses(InvalidOperation, lambda: room.come("a", beside=("b",)))
        room.come("h")
        self.refuses(TooMany, lambda: room.come("x", beside=("a",)), 8)
        self.refuses(InvalidOperation, lambda: room.come("h", beside=("a",)))
        self.refuses(UnknownName, lambda: room.tie("x", "y"), "x")
        self.refuses(UnknownName, lambda: room.untie("a", None), None)
        self.refuses(InvalidOperation, lambda: room.tie("a", "a"))
        self.refuses(InvalidOperation, lambda: room.untie("a", "b"))
        self.refuses(Broken, lambda: room.tie("a", "b"), "one")
        self.refuses(Broken, lambda: room.turn(), "one")
        self.refuses(UnknownName, lambda: room.go("a", ["b"]), ["b"])
        self.refuses(InvalidOperation, lambda: room.go(*LETTERS))
        steady = Room(row_web(tuple("abcde")))
        steady.hold("all", "steady")
        self.refuses(Broken, lambda: steady.go("b", "b"), "all")
        steady.go("a")
        self.refuses(Broken, lambda: steady.untie("b", "c"), "all")
        for value in OTHER_KINDS:
            if not plain_name(value):
                self.refuses(InvalidName, lambda: room.come(value))
            if not isinstance(value, tuple) or value != ("b", "a"):
                self.refuses(UnknownName, lambda: room.go(value), value)

    def test_holds_are_apart(self):
        room = Room(BOND)
        room.hold("two", ("colours", 2))
        room.holds.clear()
        room.holds["x"] = "good"
        self.assertEqual((room.holds, room.labels), ({"two": ("colours", 2)}, ("two",)))


class Blocks(Rooms):
    def test_blocks_within_one_another(self):
        luck = random.Random(21)
        room, record = Room(ROW), Record(ROW)
        self.history(room, record, luck, 30)
        with room.trial() as same:
            self.assertIs(same, room)
            inner = record.twin()
            self.history(same, inner, luck, 20)
            with room.trial() as again:
                self.assertIs(again, room)
                self.history(room, inner.twin(), luck, 20)
            self.same(room, inner)
            self.history(room, inner, luck, 10)
        self.same(room, record)
        self.history(room, record, luck, 30)

    def test_what_can_be_undone_and_done_again(self):
        room = Room(ROW)
        room.turn()
        room.turn()
        room.undo()
        with room.trial():
            room.undo()
            room.come("x")
            self.refuses(NothingToUndo, lambda: room.redo(), 1)
        self.assertEqual((room.redo(), room.web), (2, ROW))
        with room.trial():
            room.undo(many=2)
        self.assertEqual(room.undo(many=0), 2)

    def test_left_by_an_error(self):
        room = Room(BOND)
        room.hold("two", ("colours", 2))
        with self.assertRaises(ZeroDivisionError):
            with room.trial():
                room.release("two")
                room.turn()
                1 // 0
        self.assertEqual((room.web, room.labels, room.undo(many=0)), (BOND, ("two",), 1))
        with self.assertRaises(Broken):
            with room.trial() as same:
                same.turn()
                same.come("x", beside=("a", "b"))
        self.assertEqual((room.web, room.labels, room.undo(many=0)), (BOND, ("two",), 1))

    def test_left_by_a_return(self):
        room = Room(BOND)

        def inside():
            with room.trial() as same:
                same.turn()
                return str(same.web)

        self.assertEqual((inside(), room), ("web of a b c: a-b a-c", Room(BOND)))

    def test_during(self):
        room = Room(BOND)
        room.hold("two", ("colours", 2))

        def call(same):
            self.assertIs(same, room)
            same.turn()
            return same.undo(many=2), same.things, same.labels

        self.assertEqual(room.during(call), (0, ("a", "b", "c"), ()))
        self.assertEqual((room.labels, room.undo(many=0)), (("two",), 1))
        self.assertIsNone(room.during(lambda same: same.turn()))
        self.assertIs(room.during(lambda same: same), room)
        self.assertEqual(room.web, BOND)
        with self.assertRaises(UnknownName):
            room.during(lambda same: (same.go("a"), same.go("a")))
        self.assertEqual(room.things, ("a", "b", "c"))
        self.assertEqual(room.during(lambda same: (same.turn(), same.during(
            lambda again: (again.go("a"), len(again))), len(same))), (None, (None, 2), 3))

    def test_a_block_begins_when_it_is_entered(self):
        room = Room(BOND)
        block = room.trial()
        room.turn()
        with block as same:
            same.go("a")
            with block:
                same.go("b")
            self.assertEqual(same.things, ("b", "c"))
        self.assertEqual((room.web, room.undo(many=0)), (~BOND, 1))
        with block:
            room.undo()
        self.assertEqual(room.web, ~BOND)
        with self.assertRaises(TypeError):
            iter(block)

    def test_twins_of_blocks_go_on(self):
        room = Room(BOND)
        with room.trial():
            room.turn()
            other = room.twin()
        self.assertEqual((room.web, other.web, other.undo(), other.web), (BOND, ~BOND, 0, BOND))


class Twins(Rooms):
    def test_twins_go_their_own_ways(self):
        luck = random.Random(31)
        for web in (ROW, BRIDGE, EMPTY_EIGHT):
            room, record = Room(web), Record(web)
            self.history(room, record, luck, 40)
            other, told = room.twin(), record.twin()
            self.assertIsNot(other, room)
            self.is_true(other == room)
            self.same(other, told)
            self.history(other, told, luck, 40)
            self.same(room, record)
            self.history(room, record, luck, 40)
            self.same(other, told)

    def test_equal_rooms(self):
        one, other = Room(BOND), Room(Web(("c", "b", "a"), (("c", "b"),)))
        self.is_true(one == other)
        self.is_false(one != other)
        one.turn()
        self.is_false(one == other)
        self.is_true(one != other)
        one.undo()
        # What can be done again is no part of what is compared.
        self.is_true(one == other)
        one.hold("x", ("colours", 2))
        self.is_false(one == other)
        other.hold("y", ("colours", 2))
        self.is_false(one == other)
        other.hold("x", ("colours", 3))
        other.release("y")
        self.is_false(one == other)
        other.release("x")
        other.hold("x", ("colours", 2))
        self.is_true(one == other)
        one.hold("w", "good")
        other.release("x")
        other.hold("w", "good")
        other.hold("x", ("colours", 2))
        self.is_true(one == other)

    def test_the_order_of_coming_is_compared(self):
        one, other = Room(BOND), Room(BOND)
        one.go("a")
        one.come("a")
        self.assertEqual(one.web, other.web)
        self.is_false(one == other)
        other.go("a")
        other.come("a")
        self.is_true(one == other)

    def test_other_values(self):
        room = Room(BOND)
        for value in OTHER_KINDS + [BOND, BOND.things, str(room)]:
            self.is_false(room == value)
            self.is_true(room != value)
            self.is_false(value in Room(EIGHT) and value not in LETTERS)
        for value in OTHER_KINDS:
            self.assertIs(value in room, isinstance(value, str) and value in ("a", "b", "c"))
        self.assertEqual(["a" in room, "d" in room, ("a",) in room, ["a"] in room], [True, False, False, False])

    def test_no_web(self):
        for value in [value for value in OTHER_KINDS if not isinstance(value, Web)] + [BOND.things, Room(BOND)]:
            self.refuses(InvalidWeb, lambda: Room(value))


class Along(Rooms):
    def rooms(self):
        luck = random.Random(41)
        for web in list(small_webs(4))[::2] + list(some_webs(5, 12, 172)) + [
                EMPTY_EIGHT, ~EMPTY_EIGHT, sided_web(3, 3, 2), FIVE, EIGHT, BRIDGE]:
            room = Room(web)
            for thing in luck.sample(web.things, luck.randint(0, len(web) - 1)):
                beside = web.beside(thing)
                room.go(thing)
                room.come(thing, beside=beside)
            self.assertEqual(room.web, web)
            yield room

    def test_along(self):
        orders = 0
        for room in self.rooms():
            if not has_plan(room.web):
                self.refuses(InvalidOperation, lambda: room.along())
                continue
            found = room.along()
            self.assertEqual((type(found), len(found)), (tuple, len(room)))
            self.assertTrue(plain_along(room.web, room.things, found))
            self.is_true(is_along(room, found))
            self.assertEqual(room.along(), found)
            told = plan(room.web)
            by_plan = tuple(told[tuple(sorted(room.things[:at + 1]))] for at in range(len(room)))
            self.is_true(is_along(room, by_plan))
            orders += room.things != room.web.things
        self.assertGreater(orders, 20)

    def test_near_values(self):
        seen = []
        for room in self.rooms():
            if len(room) > 4 or not has_plan(room.web):
                continue
            found = room.along()
            items = [Charge({"a": 1}), found[-1], found[0], Charge({"zz": 1})]
            for near in near_tuples(found, items):
                right = isinstance(near, tuple) and all(
                    isinstance(charge, Charge) for charge in near) and plain_along(room.web, room.things, near)
                self.assertIs(is_along(room, near), right)
                seen.append(right)
            for at, charge in enumerate(found):
                part = plain_parts_of(room.web, charge.things)
                tiny = [Charge({thing: (thing == one) - (thing == other) for thing in charge}).times(1, LONGEST)
                        for one, other in product(charge.things, repeat=2)]
                for other in list(some_charges(part, 6, at)) + [charge + one for one in tiny] + [
                        knot_charge(part, group) for group in subsets(part.things)]:
                    near = found[:at] + (other,) + found[at + 1:]
                    right = plain_along(room.web, room.things, near)
                    self.assertIs(is_along(room, near), right)
                    seen.append(right)
        self.assertGreater(seen.count(True), 50)
        self.assertGreater(seen.count(False), 500)

    def test_rooms_without_a_plan(self):
        found = tuple(knot_charge(ROW.part(ROW.things[:many]), ("a", "b")[:many]) for many in range(1, 5))
        self.is_true(is_along(Room(ROW), found))
        self.refuses(InvalidOperation, lambda: Room(ROW).along())
        self.is_false(is_along(Room(FIVE), found))
        self.is_false(is_along(Room(FIVE), found + (Charge({"a": 1, "b": 1, "c": 1, "d": 0, "e": 0}),)))
        other = Room(ROW)
        other.go("a")
        other.come("a", beside=("b",))
        self.is_false(is_along(other, found))
        self.is_true(is_along(other, tuple(knot_charge(ROW.part(tuple(sorted(other.things[:many]))), tuple(
            sorted(other.things[:min(many, 2)]))) for many in range(1, 5))))

    def test_what_was_along_need_not_be_a_beginning(self):
        """Of two things without a conflict one pays less than 1; then it must pay 1 [17.2]."""
        room = Room(PAIR)
        before = room.along()
        low = min(before[1], key=lambda thing: Fraction(*before[1][thing]))
        room.come("c", beside=(low,))
        self.is_true(is_along(room, room.along()))
        for part in range(13):
            for one in ("a", "b"):
                last = charge_of({"a": 0, "b": 0, "c": 1} | {low: Fraction(part, 12)} | (
                    {one: Fraction(12 - part, 12)} if one != low else {low: 1}))
                self.is_false(is_along(room, before + (last,)))

    def test_values_of_other_kinds(self):
        room = Room(BOND)
        found = room.along()
        for value in OTHER_KINDS + [list(found), found[0], dict(enumerate(found)), room, (found,), found[:2], found[::-1],
                                    found + (found[-1],)]:
            self.is_false(is_along(room, value))
            self.is_false(is_along(Room(DOT), value))
            self.is_false(is_along(Room(DOT), (value,)))
        self.is_true(is_along(Room(DOT), (Charge({"x": 1}),)))
        for value in OTHER_KINDS + [BOND, "room", (room,)]:
            self.refuses(InvalidOperation, lambda: is_along(value, found))

    def test_order_bills(self):
        for room in self.rooms():
            self.assertEqual(room.order_bill(), order_bill(room.web, room.things))
        room = Room(BOND)
        room.go("b")
        room.come("b", beside=("c",))
        self.assertEqual((room.things, str(room.order_bill())), (("a", "c", "b"), "a 1, b 1, c 0"))


if __name__ == "__main__":
    unittest.main()
