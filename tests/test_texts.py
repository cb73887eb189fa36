"""Stage 18: texts of webs, charges, values and rooms, against a reading of the test's own [18.1] [18.2]."""

import random
import re
import unittest
from itertools import combinations, product
from math import gcd

from huebill.base.numbers import is_integer
from huebill.bills.charges import Charge, charge_over
from huebill.bills.even import height_paper
from huebill.bills.exists import parts_paper
from huebill.bills.steady import steady_paper
from huebill.errors import InvalidCharge, InvalidOperation, InvalidWeb, ParseError
from huebill.plans.plans import plan, plan_paper
from huebill.room.room import Room
from huebill.text.formats import read_charge, read_value, read_web, write_charge, write_value, write_web
from huebill.text.rooms import read_room, write_room
from huebill.webs.good import good_paper
from huebill.webs.webs import Web
from tests.helper import (
    BOND, BRIDGE, DOT, EIGHT, EMPTY_EIGHT, FIVE, LONG, LONGEST, OTHER_KINDS, RINGS, ROW, Case, big_webs,
    plain_hold_is_true, plain_name, small_webs, some_charges, some_webs,
)

INTEGER = "(0|-?[1-9][0-9]{0,59})"
FORMS = {
    "web": ("things( [^ \n]+)*", "conflict [^ \n]+ [^ \n]+"),
    "charge": (f"unit {INTEGER}", f"pay [^ \n]+ {INTEGER}"),
    "room": ("things( [^ \n]+)*", "(conflict [^ \n]+ [^ \n]+|hold [^ \n]+( [^ \n]+)*)"),
}
WORDS = ("enough", "exact", "good", "kept", "planned", "shrinking", "steady")
# What can stand in the place of a word, or of an integer.
WRONG_WORDS = ["", " ", "A", "abcdefghi", "a\t", "0", "1", "-1", "-0", "00", "01", "+1", "1.0", "--1", "-", "1_0", "\r",
               "9" * 60, "9" * 61, "-" + "9" * 60, "1" + "0" * 60, "things", "unit", "pay", "conflict", "hold", "none",
               "9" * 5000, "a", "b", "zz", "(", ")", "[", "]", "{", "}", "=", "=a", "=A", "=1", "a b", "z" * 3000]


def ascending(parts):
    return all(one < other for one, other in zip(parts, parts[1:]))


def plain_index(kind, text):
    """The index that the reading of a text tells, or None for a right text, by patterns of this test."""
    lines = text.split("\n")
    for at, line in enumerate(lines):
        if re.fullmatch(FORMS[kind][min(at, 1)], line) is None:
            return at
    rows = [line.split(" ") for line in lines]
    right = {"web": right_web, "charge": right_charge, "room": right_room}[kind]
    return None if right(rows) else len(lines)


def right_ties(things, rows):
    pairs = [tuple(row[1:]) for row in rows]
    return ascending(pairs) and all(one < other and one in things and other in things for one, other in pairs)


def right_things(things):
    return 1 <= len(things) <= 8 and all(plain_name(thing) for thing in things) and len(set(things)) == len(things)


def right_web(rows):
    things = rows[0][1:]
    return right_things(things) and ascending(things) and right_ties(things, rows[1:])


def right_charge(rows):
    unit, things, paid = int(rows[0][1]), [row[1] for row in rows[1:]], [int(row[2]) for row in rows[1:]]
    return unit >= 1 and right_things(things) and ascending(things) and gcd(unit, *paid) == 1


def right_room(rows):
    things = rows[0][1:]
    many = len([row for row in rows[1:] if row[0] == "conflict"])
    ties, holds = rows[1:many + 1], rows[many + 1:]
    if not right_things(things) or not all(row[0] == "conflict" for row in ties) or not right_ties(things, ties):
        return False
    web = Web(tuple(things), tuple(tuple(row[1:]) for row in ties))
    if not ascending([row[1] for row in holds]) or len(holds) > 8:
        return False
    return all(plain_name(row[1]) and right_hold(web, row[2:]) for row in holds)


def right_hold(web, words):
    if len(words) == 1 and words[0] in WORDS:
        return plain_hold_is_true(web, words[0])
    if len(words) == 2 and words[0] == "colours" and words[1] in tuple("12345678"):
        return plain_hold_is_true(web, ("colours", int(words[1])))
    if words[:1] != ["loose"] or not all(plain_name(word) for word in words[1:]) or not ascending(words[1:]):
        return False
    return plain_hold_is_true(web, ("loose", tuple(words[1:])))


def near_texts(text):
    """Texts near one: lines put in, left out and exchanged, words too many and too few, blanks, other words."""
    lines = text.split("\n")
    luck = random.Random(len(text))
    for at in range(len(lines) + 1):
        for line in ("", " ", "x", "things a", "conflict a b", "conflict b a", "unit 1", "pay a 1", "pay z 0",
                     "hold x good", "hold x", "hold", luck.choice(lines)):
            yield "\n".join(lines[:at] + [line] + lines[at:])
    for at, line in enumerate(lines):
        yield "\n".join(lines[:at] + lines[at + 1:])
        for other in range(at):
            mixed = list(lines)
            mixed[at], mixed[other] = mixed[other], mixed[at]
            yield "\n".join(mixed)
        words = line.split(" ")
        for place in range(len(words)):
            for word in WRONG_WORDS:
                yield "\n".join(lines[:at] + [" ".join(words[:place] + [word] + words[place + 1:])] + lines[at + 1:])
            yield "\n".join(lines[:at] + [" ".join(words[:place] + words[place + 1:])] + lines[at + 1:])
            yield "\n".join(lines[:at] + [" ".join(words[:place] + [""] + words[place:])] + lines[at + 1:])
            yield "\n".join(lines[:at] + [" ".join(words[:place + 1] + words[place:])] + lines[at + 1:])
        for near in (line + " ", " " + line, line + " x", line + "\t", line + "\r", line + " a", line.upper()):
            yield "\n".join(lines[:at] + [near] + lines[at + 1:])
    yield from ("", "\n", " ", text + "\n", "\n" + text, text + "\n\n", text.replace("\n", "\r\n"), text + " ")


class Texts(Case):
    def compare(self, kind, read, write, text, what):
        """Compares what is read of a text with the pattern's answer; returns the index that is told."""
        right = plain_index(kind, text)
        if right is None:
            self.assertEqual(write(read(text)), text)
        else:
            self.refuses(ParseError, lambda: read(text), right)
        return right

    def all_near(self, kind, read, write, texts):
        seen = []
        for text in texts:
            self.assertIsNone(plain_index(kind, text), text)
            for near in near_texts(text):
                seen.append(self.compare(kind, read, write, near, text))
        self.assertGreater(seen.count(None), 10)
        self.assertGreaterEqual(set(seen), {0, 1, 2, 3, 4})


class Webs(Texts):
    def test_texts(self):
        for web in list(small_webs(4)) + list(big_webs()) + [DOT, Web(("zzzzzzzz", "a", "road"), (("road", "a"),))]:
            lines = ["things " + " ".join(web.things)] + [f"conflict {one} {other}" for one, other in web.conflicts]
            self.assertEqual(write_web(web), "\n".join(lines))
            self.assertEqual(read_web(write_web(web)), web)

    def test_near_texts(self):
        self.all_near("web", read_web, write_web, [write_web(web) for web in (DOT, BOND, ROW, BRIDGE, EMPTY_EIGHT)])

    def test_known_wrong_texts(self):
        for text, index in (("", 0), ("thing a", 0), ("things", 1), ("things ", 0), ("things a a", 1), ("things b a", 1),
                            ("things a b c d e f g h i", 1), ("things A", 1), ("things a b\nconflict b", 1),
                            ("things a b\nconflict b a", 2), ("things a b\nconflict a a", 2), ("things a\n", 1),
                            ("things a b\nconflict a b\nconflict a b", 3), ("things a b\nconflict a c", 2),
                            ("things a b c\nconflict b c\nconflict a b", 3), ("conflict a b\nthings a b", 0),
                            ("things a b\n\nconflict a b", 1), ("things b a\nconflict a b\nconflict", 2),
                            ("things a b\nconflict a b c", 1), ("things conflict", None), ("things a\nthings a", 1)):
            self.assertEqual(self.compare("web", read_web, write_web, text, text), index, text)

    def test_long_texts(self):
        many = "\n".join(["things a b"] + ["conflict a b"] * 20000)
        self.refuses(ParseError, lambda: read_web(many), 20001)
        self.refuses(ParseError, lambda: read_web(many + "\nconflict a"), 20001)
        self.refuses(ParseError, lambda: read_web("things " + "a " * 100000 + "a"), 1)

    def test_no_web(self):
        for value in [value for value in OTHER_KINDS if not isinstance(value, Web)] + [BOND.things, write_web(BOND)]:
            self.refuses(InvalidWeb, lambda: write_web(value))


class Charges(Texts):
    def charges(self):
        for web in (DOT, BOND, ROW, BRIDGE, EIGHT):
            yield from some_charges(web, 8, len(web))
        yield Charge({"a": LONGEST, "b": -LONGEST, "zzzzzzzz": 0}, unit=LONGEST - 1)
        yield Charge({"x": 0}, unit=7)

    def test_texts(self):
        for charge in self.charges():
            lines = [f"unit {charge.unit}"] + [f"pay {thing} {charge.pays[thing]}" for thing in charge.things]
            self.assertEqual(write_charge(charge), "\n".join(lines))
            self.assertEqual(read_charge(write_charge(charge)), charge)
            self.assertEqual(read_charge(write_charge(charge)).unit, charge.unit)

    def test_near_texts(self):
        self.all_near("charge", read_charge, write_charge, [write_charge(charge) for charge in list(self.charges())[::5]]
                      + ["unit 2\npay a 1\npay b 1\npay c 2", "unit 1\npay a 1\npay b 1"])

    def test_known_wrong_texts(self):
        for text, index in (("", 0), ("unit", 0), ("unit 1", 1), ("unit 0\npay a 0", 2), ("unit -1\npay a 1", 2),
                            ("unit 01\npay a 1", 0), ("unit 1\npay a -0", 1), ("unit 1\npay a 1\npay a 1", 3),
                            ("unit 2\npay a 2\npay b 4", 3), ("unit 3\npay b 1\npay a 1", 3), ("unit 1\npay A 1", 2),
                            ("unit 1\npay a " + "9" * 60, None), ("unit 1\npay a " + "9" * 61, 1), ("unit 2\npay a 0", 2),
                            ("unit " + "9" * 61 + "\npay a 1", 0), ("unit 1\npay a", 1), ("unit 1\npay a 1 1", 1),
                            ("unit 1\n" + "\n".join(f"pay {name} 1" for name in "abcdefghi"), 10),
                            ("unit 1\npay a +1", 1), ("unit 1\npay a 1\n", 2), ("pay a 1\nunit 1", 0)):
            self.assertEqual(self.compare("charge", read_charge, write_charge, text, text), index, text)

    def test_integers_that_are_too_long(self):
        for charge in (charge_over({"a": LONG, "b": 1}, 1), charge_over({"a": 1, "b": 1}, LONG),
                       Charge({"a": 1, "b": 0}).times(LONGEST).times(2), charge_over({"a": -LONG, "b": 0}, 7),
                       Charge({"a": 1, "b": 0}).times(1, LONGEST).times(1, 3)):
            self.refuses(InvalidOperation, lambda: write_charge(charge))
            self.refuses(InvalidOperation, lambda: write_value(charge))
            self.refuses(InvalidOperation, lambda: write_value(("kept", {"a": (charge,)})))
        longest = charge_over({"a": LONGEST, "b": -LONGEST}, 1)
        self.assertEqual(write_charge(longest).split("\n")[2], "pay b -" + "9" * 60)
        self.assertEqual(read_value(write_value((longest, longest))), (longest, longest))

    def test_no_charge(self):
        for value in [value for value in OTHER_KINDS if not isinstance(value, Charge)] + [BOND, {"a": 1}, "unit 1"]:
            self.refuses(InvalidCharge, lambda: write_charge(value))


def plain_write(value):
    """The text of a value, by this test's own walk; None if it has none."""
    if value is None:
        return "none"
    if type(value) is int:
        return str(value) if abs(value) < LONG else None
    if isinstance(value, str):
        return "=" + value if value == "" or plain_name(value) else None
    if isinstance(value, Charge):
        if not all(is_integer(number) for number in (value.unit, *value.pays.values())):
            return None
        return "[ " + " ".join([str(value.unit)] + [f"={one} {paid}" for one, paid in value.pays.items()]) + " ]"
    if isinstance(value, tuple):
        parts = [plain_write(part) for part in value]
        return None if None in parts else " ".join(["("] + parts + [")"])
    if isinstance(value, dict):
        told = {plain_write(key): plain_write(part) for key, part in value.items()}
        if None in told or None in told.values():
            return None
        return " ".join(["{"] + [f"{key} {told[key]}" for key in sorted(told)] + ["}"])
    return None


def depth(value):
    """How many tuples, dicts and charges stand one in another."""
    if isinstance(value, Charge):
        return 1
    if isinstance(value, tuple):
        return 1 + max([depth(part) for part in value] + [0])
    if isinstance(value, dict):
        return 1 + max([depth(part) for row in value.items() for part in row] + [0])
    return 0


def plain_read(line):
    """A pair (True, value) of the value of a text, or (False, None), by a stack of what is open."""
    stack = [("top", [])]
    for word in line.split(" "):
        if word in ("(", "[", "{"):
            stack.append((word, []))
            if len(stack) > 10:
                return False, None
            continue
        if word in (")", "]", "}"):
            kind, parts = stack.pop()
            if {"(": ")", "[": "]", "{": "}"}.get(kind) != word:
                return False, None
            fine, part = closed(kind, parts)
            if not fine:
                return False, None
        elif word == "none":
            part = None
        elif re.fullmatch(INTEGER, word):
            part = int(word)
        elif re.fullmatch("=[a-z]{0,8}", word):
            part = word[1:]
        else:
            return False, None
        stack[-1][1].append(part)
    if len(stack) != 1 or len(stack[0][1]) != 1:
        return False, None
    return True, stack[0][1][0]


def closed(kind, parts):
    """What stands between an opening and a closing sign."""
    if kind == "(":
        return True, tuple(parts)
    if kind == "{":
        keys = parts[0::2]
        if len(parts) % 2 or not all(plain_key(key) for key in keys):
            return False, None
        return ascending([plain_write(key) for key in keys]), dict(zip(keys, parts[1::2]))
    if len(parts) % 2 == 0 or len(parts) < 3 or not all(type(number) is int for number in parts[0::2]):
        return False, None
    unit, names, paid = parts[0], parts[1::2], parts[2::2]
    if unit < 1 or not all(isinstance(name, str) for name in names) or not right_things(names) or not ascending(names):
        return False, None
    return gcd(unit, *paid) == 1, Charge(dict(zip(names, paid)), unit=unit)


def plain_key(value):
    if isinstance(value, tuple):
        return all(plain_key(part) for part in value)
    return not isinstance(value, (dict, Charge))


def drawn_value(luck, most, is_key=False):
    """A value of all kinds with a text, at most so deep."""
    kinds = ["none", "integer", "integer", "text", "text"] + ["tuple", "tuple"] * (most > 0)
    kind = luck.choice(kinds + ["dict", "dict", "charge"] * (most > 0 and not is_key))
    if kind == "none":
        return None
    if kind == "integer":
        return luck.choice((0, 1, -1, 2, 10, -12, LONGEST, -LONGEST, luck.randint(-10 ** 30, 10 ** 30)))
    if kind == "text":
        return luck.choice(("", "a", "b", "z", "ab", "zzzzzzzz", "kept", "none"))
    if kind == "tuple":
        return tuple(drawn_value(luck, most - 1, is_key) for _ in range(luck.randint(0, 3)))
    if kind == "dict":
        return {drawn_value(luck, most - 1, True): drawn_value(luck, most - 1) for _ in range(luck.randint(0, 3))}
    return Charge({name: luck.randint(-3, 3) for name in luck.sample(("a", "b", "c", "zz"), luck.randint(1, 4))},
                  unit=luck.randint(1, 4))


class Values(Texts):
    def test_drawn_values(self):
        luck = random.Random(181)
        depths = set()
        for at in range(1500):
            value = drawn_value(luck, at % 9)
            text = write_value(value)
            self.assertEqual(text, plain_write(value))
            self.assertEqual(read_value(text), value)
            self.assertEqual(repr_of(read_value(text)), repr_of(read_value(write_value(read_value(text)))))
            depths.add(depth(value))
        self.assertGreaterEqual(len(depths), 5)

    def test_papers(self):
        for web in list(big_webs())[::3] + [ROW, BOND, FIVE]:
            values = [parts_paper(web), good_paper(web), plan_paper(web), plan(web)]
            if good_paper(web)[0] == "good":
                values += [height_paper(web), steady_paper(web)]
            for value in values:
                self.assertEqual(read_value(write_value(value)), value)
                self.assertEqual(write_value(value), plain_write(value))

    def test_the_order_of_keys_is_that_of_their_texts(self):
        told = {"b": 1, "a": 2, None: 3, 10: 4, 9: 5, -1: 6, ("a",): 7, ("a", "b"): 8, (): 9, "": 10, ("b",): 11, 0: 12}
        text = write_value(told)
        self.assertEqual(text, "{ ( ) 9 ( =a ) 7 ( =a =b ) 8 ( =b ) 11 -1 6 0 12 10 4 9 5 = 10 =a 2 =b 1 none 3 }")
        self.assertEqual(list(read_value(text)), [(), ("a",), ("a", "b"), ("b",), -1, 0, 10, 9, "", "a", "b", None])
        self.assertEqual(list(told)[:3], ["b", "a", None])
        self.refuses(ParseError, lambda: read_value("{ =b 1 =a 2 }"), 0)
        self.refuses(ParseError, lambda: read_value("{ =a 1 =a 1 }"), 0)

    def test_near_texts(self):
        luck = random.Random(182)
        seen = []
        for _ in range(60):
            text = write_value(drawn_value(luck, 3))
            words = text.split(" ")
            cases = [text, text + " ", " " + text, text + " " + text, text + "\n", text + "\n" + text, "", "( " + text,
                     text + " )", "( " + text + " )", "{ " + text + " }", "{ =a " + text + " }", "[ " + text + " ]",
                     "{ " + text + " =a }", "\n" + text]
            for at in range(len(words)):
                cases.append(" ".join(words[:at] + words[at + 1:]))
                for word in luck.sample(WRONG_WORDS, 6):
                    cases.append(" ".join(words[:at] + [word] + words[at + 1:]))
                    cases.append(" ".join(words[:at] + [word] + words[at:]))
                other = luck.randrange(len(words))
                mixed = list(words)
                mixed[at], mixed[other] = mixed[other], mixed[at]
                cases.append(" ".join(mixed))
            for near in cases:
                seen.append(self.check(near))
        self.assertGreater(seen.count(True), 200)
        self.assertGreater(seen.count(False), 2000)

    def check(self, text):
        line, *more = text.split("\n")
        fine, value = plain_read(line)
        if fine and not more:
            self.assertEqual(read_value(text), value)
            self.assertEqual(write_value(value), text)
        else:
            self.refuses(ParseError, lambda: read_value(text), 1 if fine else 0)
        return fine

    def test_known_texts(self):
        for text, index in (("", 0), ("\n", 0), ("none\n", 1), ("none\nnone", 1), ("None", 0), ("()", 0), ("( )", None),
                            ("(  )", 0), ("( ", 0), (")", 0), ("( ]", 0), ("{ }", None), ("{ =a }", 0), ("[ ]", 0),
                            ("[ 1 ]", 0), ("[ 1 =a ]", 0), ("[ 1 =a 1 ]", None), ("[ 2 =a 2 ]", 0), ("[ 0 =a 1 ]", 0),
                            ("[ 1 a 1 ]", 0), ("[ 1 =b 1 =a 1 ]", 0), ("[ 1 =a 1 =a 1 ]", 0), ("[ 1 = 1 ]", 0),
                            ("{ { } 1 }", 0), ("{ [ 1 =a 1 ] 1 }", 0), ("{ ( { } ) 1 }", 0), ("{ ( ) { } }", None),
                            ("[ 1 =a 1 =b 1 =c 1 =d 1 =e 1 =f 1 =g 1 =h 1 ]", None), ("=", None), ("=abcdefghi", 0),
                            ("[ 1 =a 1 =b 1 =c 1 =d 1 =e 1 =f 1 =g 1 =h 1 =i 1 ]", 0), ("=none", None), ("a", 0),
                            ("1 1", 0), ("none none", 0), ("-0", 0), ("007", 0), ("9" * 60, None), ("9" * 61, 0),
                            ("-" + "9" * 60, None), ("true", 0), ("( =a none -5 )\n\n", 1), ("[ 1 =a none ]", 0),
                            ("[ =a 1 ]", 0), ("[ 1 =a =b ]", 0), ("[ 1 =a ( ) ]", 0), ("=A", 0), ("= a", 0), ("[", 0),
                            ("{", 0), ("{ =a", 0), ("[ 1 =a 1", 0), ("\nnone", 0), ("x\nnone", 0)):
            fine, value = plain_read(text.split("\n")[0])
            self.assertEqual(None if fine and "\n" not in text else int(fine), index, text)
            self.check(text)
        for word in WRONG_WORDS:
            self.check(word)

    def test_nine_deep_and_more(self):
        value, words = 5, ["5"]
        for many in range(1, 13):
            for opened in ("( {} )", "{{ =a {} }}"):
                deep = (value,) if opened[0] == "(" else {"a": value}
                text = opened.format(" ".join(words))
                if many <= 9:
                    self.assertEqual(write_value(deep), text)
                    self.assertEqual(read_value(text), deep)
                else:
                    self.refuses(ParseError, lambda: read_value(text), 0)
                    if many == 10:
                        self.refuses(InvalidOperation, lambda: write_value(deep))
            value, words = (value,), ["(", *words, ")"]
        self.refuses(ParseError, lambda: read_value("( " * 5000 + ") " * 4999 + ")"), 0)
        self.refuses(ParseError, lambda: read_value("( " * 5000 + "("), 0)

    def test_charges_and_keys_count_too(self):
        half = Charge({"a": 1}, unit=2)
        value, key = half, ()
        for _ in range(8):
            value = (value,)
        for _ in range(7):
            key = (key,)
        self.assertEqual((depth(value), depth({key: 1})), (9, 9))
        for right in (value, {key: 1}, {key: None, "a": half}):
            self.assertEqual(read_value(write_value(right)), right)
        for wrong in ((value,), {(key,): 1}, {"a": value}, ({key: 1},)):
            self.refuses(InvalidOperation, lambda: write_value(wrong))
            self.refuses(ParseError, lambda: read_value(plain_write(wrong)), 0)
        self.assertEqual(write_value({((),): ((),)}), "{ ( ( ) ) ( ( ) ) }")

    def test_values_without_a_text(self):
        nested = [True, False, [], ["a"], "A", "a b", "abcdefghi", "a\n", LONG, -LONG, 10 ** 99, DOT, Room(DOT),
                  InvalidOperation("a"), "=", "1", "x" * 3000, ParseError(1)]
        for value in nested:
            for wrong in (value, (value,), ("a", (value, "b")), {"a": value}, {"a": {"b": (value,)}}):
                self.refuses(InvalidOperation, lambda: write_value(wrong))
        for key in (True, False, "A", LONG, (True,), ("a", ("B",)), 10 ** 99, "a b"):
            self.refuses(InvalidOperation, lambda: write_value({key: 1}))
            self.refuses(InvalidOperation, lambda: write_value(("a", {"a": 1, key: 1})))
        for value in OTHER_KINDS:
            text = plain_write(value)
            if text is None:
                self.refuses(InvalidOperation, lambda: write_value(value))
            else:
                self.assertEqual(write_value(value), text)

    def test_long_texts(self):
        many = tuple(Charge({"a": at}, unit=at + 1) for at in range(20000))
        self.assertEqual(read_value(write_value(many)), many)
        self.refuses(ParseError, lambda: read_value("( " + "[ 1 =a 1 " * 20000 + ")"), 0)
        self.assertEqual(read_value(write_value({(at,): at for at in range(5000)})), {(at,): at for at in range(5000)})

    def test_what_is_read_is_apart(self):
        one, other = read_value("{ =a { } }"), read_value("{ =a { } }")
        one["a"]["b"] = 1
        self.assertEqual(other, {"a": {}})


def repr_of(value):
    """A value with its dicts in their order."""
    if isinstance(value, dict):
        return [(repr_of(key), repr_of(part)) for key, part in value.items()]
    if isinstance(value, tuple):
        return tuple(repr_of(part) for part in value)
    return str(value)


def drawn_rooms():
    """Rooms with things in any order of coming, and with holds that are true, the same at each run."""
    luck = random.Random(183)
    holds = list(WORDS) + [("colours", many) for many in range(1, 9)] + [
        ("loose", ()), ("loose", ("a", "d")), ("loose", ("b", "zz")), ("loose", tuple("acegi"))]
    for web in [DOT, BOND, ROW, FIVE, EIGHT, BRIDGE, EMPTY_EIGHT] + list(some_webs(5, 20, 184)):
        room = Room(web)
        for thing in luck.sample(web.things, luck.randint(0, len(web) - 1)):
            beside = web.beside(thing)
            room.go(thing)
            room.come(thing, beside=beside)
        for label in luck.sample(tuple("pqrstuvwxyz") + ("road", "hold"), luck.randint(0, 8)):
            hold = luck.choice(holds)
            if plain_hold_is_true(web, hold):
                room.hold(label, hold)
        yield room


def plain_room_text(room):
    rows = [["things", *room.things]] + [["conflict", *pair] for pair in room.web.conflicts]
    for label in sorted(room.holds):
        hold = room.holds[label]
        if isinstance(hold, str):
            rows.append(["hold", label, hold])
        elif hold[0] == "colours":
            rows.append(["hold", label, "colours", str(hold[1])])
        else:
            rows.append(["hold", label, "loose", *hold[1]])
    return "\n".join(" ".join(row) for row in rows)


class Rooms(Texts):
    def test_texts(self):
        kinds = set()
        for room in drawn_rooms():
            text = write_room(room)
            self.assertEqual(text, plain_room_text(room))
            found = read_room(text)
            self.assertEqual(found, room)
            self.assertEqual((found.things, found.holds, list(found.holds)), (room.things, room.holds, list(room.holds)))
            self.assertEqual([found.undo(many=0), found.redo(many=0)], [0, 0])
            with self.assertRaises(LookupError):
                found.undo()
            kinds |= {hold if isinstance(hold, str) else hold[0] for hold in room.holds.values()}
        self.assertGreaterEqual(kinds, {"colours", "loose", "kept", "good"})

    def test_a_room_that_is_read_goes_on(self):
        room = read_room("things b a\nhold one colours 1\nhold two loose a x")
        self.assertEqual(room.things, ("b", "a"))
        room.come("x", beside=())
        self.assertEqual((room.things, room.undo(), room.things, room.undo(many=0)), (("b", "a", "x"), 0, ("b", "a"), 0))
        with self.assertRaises(ArithmeticError):
            room.tie("a", "b")

    def test_near_texts(self):
        texts = [write_room(room) for room in list(drawn_rooms())[:7]]
        texts += ["things b a c\nconflict a c\nhold p colours 2\nhold q good\nhold r loose b zz\nhold s loose"]
        self.all_near("room", read_room, write_room, texts)

    def test_known_wrong_texts(self):
        for text, index in (("", 0), ("things", 1), ("things a\nhold", 1), ("things a\nhold x", 2), ("things a\nhold x ", 1),
                            ("things a\nhold x round", 2), ("things a\nhold x good kept", 2), ("things a\nhold x good", None),
                            ("things a\nhold x colours", 2), ("things a\nhold x colours 01", 2),
                            ("things a\nhold x colours 9", 2), ("things a\nhold x colours 0", 2),
                            ("things a\nhold x colours 1 1", 2), ("things a\nhold x colours " + "1" * 99, 2),
                            ("things a\nhold x loose", None), ("things a\nhold x loose b a", 2),
                            ("things a\nhold x loose a A", 2), ("things b a\nhold X good", 2),
                            ("things a\nhold x good\nhold x good", 3), ("things a\nhold y good\nhold x good", 3),
                            ("things a b\nhold x good\nconflict a b", 3), ("things b a\nconflict b a", 2),
                            ("things a b\nconflict a b\nhold x colours 1", 3), ("things a a", 1),
                            ("things a\n" + "\n".join(f"hold {label} good" for label in "abcdefgh"), None),
                            ("things a\n" + "\n".join(f"hold {label} good" for label in "abcdefghi"), 10),
                            ("things a b\nconflict a b\nhold x loose a b", 3), ("things a\nrelease x", 1),
                            ("things a\nhold x good\nx", 2), ("hold x good", 0), ("things a\nhold loose loose", None)):
            self.assertEqual(self.compare("room", read_room, write_room, text, text), index, text)

    def test_holds_that_are_not_true(self):
        for web, hold in product((BOND, ROW, FIVE, RINGS[1], EIGHT), WORDS + ("colours 1", "colours 2", "colours 3")):
            text = write_web(web) + f"\nhold x {hold}"
            self.compare("room", read_room, write_room, text, text)

    def test_all_orders_of_coming(self):
        for things in combinations("abcdefgh", 3):
            for text in (f"things {' '.join(things[::-1])}", f"things {things[1]} {things[0]} {things[2]}"):
                self.assertEqual(write_room(read_room(text)), text)

    def test_no_room(self):
        for value in OTHER_KINDS + [BOND, "things a", (Room(BOND),)]:
            self.refuses(InvalidOperation, lambda: write_room(value))


class NoTexts(Case):
    def test_what_is_no_string(self):
        for value in OTHER_KINDS + [BOND, Room(BOND), ["things a"], ("things a",), {"things a": 1}]:
            if not isinstance(value, str):
                for read in (read_web, read_charge, read_value, read_room):
                    self.refuses(InvalidOperation, lambda: read(value))

    def test_other_strings(self):
        for value in [value for value in OTHER_KINDS if isinstance(value, str)] + WRONG_WORDS:
            for read in (read_web, read_charge, read_room):
                self.refuses(ParseError, lambda: read(value), 1 if value == "things" and read != read_charge else 0)


if __name__ == "__main__":
    unittest.main()
