"""Stage 19: the shell, each answer compared with what the named call tells."""

import random
import re
import unittest

from huebill.bills.charges import Charge
from huebill.bills.even import floor_paper, greatest_floor, height_paper, least_height
from huebill.bills.exact import exact_paper, lift, wide_paper
from huebill.bills.exists import kept_bill, kept_paper, parts_number, parts_paper
from huebill.bills.kept import is_bill, is_kept, is_within, worst
from huebill.bills.mixtures import fixing_group, pay_range
from huebill.bills.steady import is_beaten, steady_paper
from huebill.errors import (
    Broken, InvalidCharge, InvalidGroup, InvalidName, InvalidOperation, InvalidOrder, InvalidWeb, NothingToUndo,
    ParseError, Spoiled, TooMany, UnknownName,
)
from huebill.orders.orders import count_paying, is_kind, mean_bill, payers
from huebill.orders.shrinking import shrinking_paper, sides
from huebill.plans.plans import plan_paper
from huebill.room.room import Room
from huebill.small.small import properties
from huebill.text.formats import read_charge, read_value, write_charge, write_value
from huebill.text.rooms import write_room
from huebill.text.shell import Shell
from huebill.webs.colours import colours, greatest_knots
from huebill.webs.good import good_paper
from huebill.webs.joined import layers, pieces
from huebill.webs.webs import Web
from tests.helper import (
    BOND, BRIDGE, DOT, EIGHT, EMPTY_EIGHT, FIVE, LETTERS, LONGEST, OTHER_KINDS, ROW, Case, mix,
    sided_web, some_charges, some_mixings, some_webs,
)

PAPERS = {
    "good": good_paper, "kept": kept_paper, "parts": parts_paper, "shrinking": shrinking_paper, "plan": plan_paper,
    "exact": exact_paper, "wide": wide_paper, "steady": steady_paper, "height": height_paper, "floor": floor_paper,
}
INTEGER = "(0|-?[1-9][0-9]{0,59})"
# The form of each command and each question, behind its word; groups, orders and names are any words.
WORD, ANY, GOING = "[^ ]+", "( [^ ]+)*", "( [^ ]+){1,8}"
FORMS = {
    "come": f" {WORD}{ANY}", "go": GOING, "tie": f" {WORD} {WORD}", "untie": f" {WORD} {WORD}", "turn": "",
    "hold": f" {WORD}( {WORD}| colours {INTEGER}| loose{ANY})", "release": f" {WORD}", "undo": "( (0|[1-9][0-9]{0,59}))?",
    "redo": "( (0|[1-9][0-9]{0,59}))?", "things": "", "labels": "", "show": "", "order": "", "properties": "",
    "colours": ANY, "knots": "", "pieces": "", "layers": "", "sides": "", "parts": "", "height": "", "floor": "",
    "range": ANY, "fixing": "", "payers": GOING, "kind": GOING, "paying": ANY, "mean": "", "worst": f"( {WORD})+",
    "is": f"( {WORD})+", "beaten": f"( {WORD})+", "lifted": f"( {WORD})+", "bill": "", "along": "",
    "paper": f" ({'|'.join(PAPERS)})",
}


def names_text(names):
    return " ".join(names) or "none"


def groups_text(groups):
    return ", ".join(names_text(group) for group in groups)


def number_text(fraction):
    return str(fraction[0]) if fraction[1] == 1 else f"{fraction[0]}/{fraction[1]}"


def yes(right):
    return "yes" if right else "no"


def told_charge(words):
    return read_charge("\n".join(" ".join(words).split("; ")))


def told_hold(words):
    if words[0] == "colours" and len(words) == 2:
        return "colours", int(words[1])
    return ("loose", words[1:]) if words[0] == "loose" else words[0]


def done_again(call, words):
    call(many=int(words[0]) if words else 1)


def worst_text(web, charge):
    over, group = worst(web, charge)
    return f"{number_text(over)} {names_text(group)}"


def judged(web, charge):
    rules = {"within": is_within, "bill": is_bill, "kept": is_kept}
    return names_text([word for word in rules if rules[word](web, charge)])


# What each word asks of the room: the answer, or None for `done`.
CALLS = {
    "come": lambda room, words: room.come(words[0], beside=words[1:]),
    "go": lambda room, words: room.go(*words),
    "tie": lambda room, words: room.tie(*words),
    "untie": lambda room, words: room.untie(*words),
    "turn": lambda room, words: room.turn(),
    "hold": lambda room, words: room.hold(words[0], told_hold(words[1:])),
    "release": lambda room, words: room.release(*words),
    "undo": lambda room, words: done_again(room.undo, words),
    "redo": lambda room, words: done_again(room.redo, words),
    "things": lambda room, words: names_text(room.things),
    "labels": lambda room, words: names_text(room.labels),
    "show": lambda room, words: write_room(room),
    "order": lambda room, words: str(room.order_bill()),
    "properties": lambda room, words: names_text(properties(room.web)),
    "colours": lambda room, words: str(colours(room.web, words or None)),
    "knots": lambda room, words: groups_text(greatest_knots(room.web)),
    "pieces": lambda room, words: groups_text(pieces(room.web)),
    "layers": lambda room, words: groups_text(layers(room.web)),
    "sides": lambda room, words: groups_text(sides(room.web) or ((),)),
    "parts": lambda room, words: number_text(parts_number(room.web)),
    "height": lambda room, words: number_text(least_height(room.web)),
    "floor": lambda room, words: number_text(greatest_floor(room.web)),
    "range": lambda room, words: " ".join(str(number) for number in pay_range(room.web, words)),
    "fixing": lambda room, words: names_text(fixing_group(room.web)),
    "payers": lambda room, words: names_text(payers(room.web, words)),
    "kind": lambda room, words: yes(is_kind(room.web, words)),
    "paying": lambda room, words: str(count_paying(room.web, words)),
    "mean": lambda room, words: str(mean_bill(room.web)),
    "worst": lambda room, words: worst_text(room.web, told_charge(words)),
    "is": lambda room, words: judged(room.web, told_charge(words)),
    "beaten": lambda room, words: yes(is_beaten(room.web, told_charge(words))),
    "lifted": lambda room, words: yes(lift(room.web, told_charge(words)) is not None),
    "bill": lambda room, words: write_value(kept_bill(room.web)),
    "along": lambda room, words: write_value(room.along()),
    "paper": lambda room, words: write_value(PAPERS[words[0]](room.web)),
}
ERRORS = {
    InvalidName: lambda error: "name", InvalidGroup: lambda error: "group", InvalidCharge: lambda error: "charge",
    InvalidOrder: lambda error: "order", InvalidOperation: lambda error: "operation", ParseError: lambda error: "what",
    UnknownName: lambda error: f"unknown {error.name}", TooMany: lambda error: f"many {error.limit}",
    Broken: lambda error: f"broken {error.label}", Spoiled: lambda error: "spoiled " + " ".join(error.group),
    NothingToUndo: lambda error: f"undo {error.many}",
}


def plain_answer(room, line):
    """The answer to a line, by the form of its word and by the call that it names."""
    if not isinstance(line, str) or "\n" in line:
        return "what"
    word = line.split(" ")[0]
    if word not in FORMS or re.fullmatch(word + FORMS[word], line) is None:
        return "what"
    try:
        answer = CALLS[word](room, tuple(line.split(" ")[1:]))
    except tuple(ERRORS) as error:
        return ERRORS[type(error)](error)
    return "done" if answer is None else answer


def charge_line(charge):
    return write_charge(charge).replace("\n", "; ")


def drawn_line(luck, room):
    """A line of any kind; its words need not be right."""
    word = luck.choice(list(FORMS) + ["come", "come", "go", "tie", "untie", "turn", "hold", "hold", "undo", "redo"])
    web = room.web
    some = tuple(thing for thing in web.things if luck.random() < 0.5)
    order = tuple(luck.sample(web.things, len(web)))
    names = list(web.things) + ["a", "b", "zz", "A"]
    if word in ("worst", "is", "beaten", "lifted"):
        held = list(some_mixings(web, 1, luck.randint(0, 99)))[0][1]
        charge = luck.choice((next(some_charges(web, 1, luck.randint(0, 99))), mix(web, held), mean_bill(web)))
        rest = charge_line(luck.choice((charge, charge, charge, charge, Charge({"a": 1}))))
        rest = luck.choice((rest, rest, rest, rest, rest, rest.replace(";", ""), rest + ";", rest.replace("; ", ";")))
    else:
        rest = " ".join({
            "come": (luck.choice(names + list("cdefghij")),) + some, "go": some[:2], "tie": order[:2], "untie": order[:2],
            "hold": luck.choice((("p", "kept"), ("q", "colours", "5"), ("r", "loose") + some, ("s", "good"), ("t", "none"),
                                 ("u", "enough"), ("v", "planned"), ("W", "kept"), ("w", "colours", "0"),
                                 ("x", "colours", "x"), ("y", "colours"), ("z", "loose"), ("p",), ("o", "steady"))),
            "release": (luck.choice(room.labels + ("p",)),), "undo": luck.choice(((), ("1",), ("2",), ("99",), ("01",))),
            "redo": luck.choice(((), ("1",), ("0",), ("-1",), ("x",))), "colours": some, "range": some, "paying": some,
            "payers": order, "kind": order, "paper": (luck.choice(list(PAPERS)),),
        }.get(word, ()))
    words = [word] + [rest] * (rest != "")
    if luck.random() < 0.1:
        words.insert(luck.randint(0, len(words)), luck.choice(names + ["", "1", "show"]))
    return " ".join(words)


class Lines(Case):
    def test_drawn_lines(self):
        luck = random.Random(191)
        answers = {}
        for web in [DOT, BOND, ROW, FIVE, BRIDGE, EIGHT, EMPTY_EIGHT, sided_web(2, 2)] + list(some_webs(5, 6, 192)):
            shell, room = Shell(web), Room(web)
            for _ in range(180):
                line = drawn_line(luck, room)
                right = plain_answer(room, line)
                self.assertEqual((shell if luck.random() < 0.5 else shell.answer)(line), right, line)
                self.assertEqual(shell.room(), room)
                answers.setdefault(line.split(" ")[0], set()).add(right)
            self.assertEqual(shell.room().undo(many=0), room.undo(many=0))
        self.assertTrue(all(len(answers[word]) > 1 for word in FORMS if word in answers), answers.keys())
        self.assertEqual(set(FORMS) - set(answers), set())

    def test_each_question_in_many_webs(self):
        luck = random.Random(193)
        for web in [DOT, BOND, ROW, FIVE, BRIDGE, EIGHT, EMPTY_EIGHT, ~EMPTY_EIGHT] + list(some_webs(6, 5, 194)):
            shell, room = Shell(web), Room(web)
            for word in FORMS:
                lines = [word] + ([f"paper {paper}" for paper in PAPERS] if word == "paper" else [])
                lines += [f"{word} {' '.join(luck.sample(web.things, len(web)))}", f"{word} {web.things[0]}"]
                lines += [f"{word} {charge_line(charge)}" for charge in (mean_bill(web), Charge({"a": 1}), Charge(
                    {thing: 1 for thing in web}, unit=3), kept_bill(web) or mean_bill(web))]
                for line in lines:
                    self.assertEqual(shell(line), plain_answer(room, line), line)
            self.assertEqual(shell.room(), room)

    def test_words_too_many_and_too_few(self):
        right = {"come": "come x", "go": "go a", "tie": "tie a b", "untie": "untie b c", "hold": "hold x kept",
                 "release": "release x", "payers": "payers a b c", "kind": "kind a b c", "worst": "worst unit 1; pay a 1",
                 "is": "is unit 1; pay a 1", "beaten": "beaten unit 1; pay a 1", "lifted": "lifted unit 1; pay a 1",
                 "paper": "paper good"}
        for word in FORMS:
            line = right.get(word, word)
            self.assertNotEqual(Shell(BOND)(line), "what", line)
            words = line.split(" ")
            cases = [" " + line, line + " ", line.upper(), line + "\n", "\n" + line, line + "\nturn", line + "\t",
                     line.replace(" ", "  ") if " " in line else line + "  ", line + " x", line + " 1", line + " a b",
                     " ".join(words[:-1]), word + "s", word[:-1], word + " " + word, line + ";", line + " ;"]
            cases += [" ".join(words[:at] + words[at + 1:]) for at in range(len(words))]
            cases += [" ".join(words + list(LETTERS[:many])) for many in range(3, 9)] + [" ".join([word] + ["zz"] * 9)]
            for near in cases:
                room = Room(BOND)
                self.assertEqual(Shell(BOND)(near), plain_answer(room, near), near)

    def test_values_that_are_no_lines(self):
        shell = Shell(BOND)
        for value in OTHER_KINDS + [BOND, shell, ("turn",), ["turn"], {"turn": 1}, "Turn", "turn ", " turn", "turn\n",
                                    "turn\nturn", "turn turn", "", " ", "what", "done", "turned", "a", "none"]:
            if value != "parts":
                self.assertEqual(shell(value), "what", value)
                self.assertEqual(shell.answer(value), "what", value)
        self.assertEqual(shell.room(), Room(BOND))


class Commands(Case):
    def done(self, shell, *lines):
        for line in lines:
            self.assertEqual(shell(line), "done", line)

    def test_holds(self):
        shell = Shell(BOND)
        self.done(shell, "hold a loose", "hold b loose zz", "hold c loose a b", "hold d colours 2", "hold e kept",
                  "hold loose good", "hold colours loose", "hold hold colours 8")
        self.assertEqual(shell("labels"), "a b c colours d e hold loose")
        self.assertEqual(shell.room().holds["a"], ("loose", ()))
        self.assertEqual([shell("hold i kept"), shell("hold a kept"), shell("hold i steady"), shell("hold I kept")],
                         ["many 8", "operation", "many 8", "name"])
        self.done(shell, "release hold", "release e")
        for line, answer in (("hold x", "what"), ("hold", "what"), ("hold x colours", "operation"),
                             ("hold x colours 2 2", "what"), ("hold x colours x", "what"), ("hold x colours 02", "what"),
                             ("hold x colours +2", "what"), ("hold x colours -2", "operation"),
                             ("hold x colours 0", "operation"), ("hold x colours 9", "operation"),
                             ("hold x colours " + "9" * 60, "operation"), ("hold x colours " + "9" * 61, "what"),
                             ("hold x kept kept", "what"), ("hold x loose b a", "operation"), ("hold x loose A", "operation"),
                             ("hold x loose b c", "broken x"), ("hold x colours 1", "broken x"), ("hold x round", "operation"),
                             ("hold x shrinking", "broken x"), ("hold d kept", "operation"), ("hold x -0", "operation"),
                             ("hold abcdefghi kept", "name"), ("hold 1 kept", "name"), ("hold 1 colours x", "what"),
                             ("hold x loose " + " ".join(f"z{one}" for one in LETTERS) + " zz zzz", "done")):
            self.assertEqual(shell(line), answer, line)

    def test_undo_and_redo(self):
        shell = Shell(BOND)
        self.done(shell, "turn", "turn", "go a", "undo", "undo 2", "redo 1", "redo", "redo 0", "undo 0", "redo")
        for line, answer in (("redo", "undo 1"), ("redo 7", "undo 7"), ("undo 4", "undo 4"), ("undo 01", "what"),
                             ("undo -1", "what"), ("undo x", "what"), ("undo 1 1", "what"), ("undo -0", "what"),
                             ("undo " + "9" * 60, "undo " + "9" * 60), ("undo " + "9" * 61, "what"), ("redo +1", "what"),
                             ("redo 1.0", "what"), ("undo 3", "done"), ("undo", "undo 1"), ("redo 3", "done")):
            self.assertEqual(shell(line), answer, line)
        self.assertEqual((shell("things"), shell("show")), ("b c", "things b c\nconflict b c"))

    def test_a_word_for_each_error(self):
        shell = Shell(EMPTY_EIGHT)
        self.done(shell, "hold one colours 1", "hold two colours 2")
        for line, answer in (("go zz", "unknown zz"), ("go a A", "unknown A"), ("tie a b", "broken one"),
                             ("tie a a", "operation"), ("tie a 1", "unknown 1"), ("come x", "many 8"), ("come X", "name"),
                             ("come x b a", "group"), ("come a", "operation"), ("go a b c d e f g h", "operation"),
                             ("go a b c d e f g h h", "what"), ("colours b a", "group"), ("range zz", "group"),
                             ("paying a a", "group"), ("payers a b", "order"), ("kind a a b c d e f g", "order"),
                             ("kind a b c d e f g h", "yes"), ("payers a b c d e f g h i", "what"),
                             ("worst unit 1; pay a 1", "charge"), ("beaten unit 1; pay a 1", "charge"),
                             ("lifted unit 1; pay a 1", "charge"), ("is unit 1; pay a 1", "none"),
                             ("beaten " + charge_line(Charge({thing: 1 for thing in LETTERS})), "operation"),
                             ("untie a b", "operation"), ("release three", "unknown three"), ("undo 3", "undo 3"),
                             ("redo", "undo 1"), ("come x a b c d e f g h i", "group"), ("turn", "broken one"),
                             ("paying", "0"), ("range", "0 0"), ("range a", "0 1")):
            self.assertEqual(shell(line), answer, line)
        five = Shell(FIVE)
        spoiled = "spoiled a b c d e"
        for line in ("height", "floor", "fixing", "range a", "range", "paper wide", "paper steady", "paper height",
                     "paper floor", "lifted " + charge_line(mean_bill(FIVE)), "beaten " + charge_line(mean_bill(FIVE))):
            self.assertEqual(five(line), spoiled, line)
        self.assertEqual([five("along"), five("bill"), five("range zz"), five("lifted unit 1; pay a 1"), five("labels")],
                         ["operation", "none", "group", "charge", "none"])
        self.assertEqual([five(f"paper {word}").split(" ")[1] for word in ("good", "exact", "kept", "plan", "shrinking")],
                         ["=ring", "=ring", "=scale", "=row", "=bond"])

    def test_refused_lines_change_nothing(self):
        shell = Shell(BOND)
        self.done(shell, "hold two colours 2", "turn", "undo")
        for line in ("come x b c", "go zz", "tie b c", "come x c b", "hold two kept", "release x", "undo 2", "hold x", "go",
                     "show", "bill", "along", "paper good", "worst unit 1; pay a 1", "redo 2", "untie a b", "come"):
            shell(line)
            self.assertEqual(shell.room().redo(), 2)
            self.assertEqual(shell("show"), "things a b c\nconflict b c\nhold two colours 2")
        self.done(shell, "redo")


class Answers(Case):
    def test_charges_in_lines(self):
        shell = Shell(BOND)
        for rest, answer in (("unit 2; pay a 1; pay b 1; pay c 2", "1/2 a c"), ("unit 1; pay a 0; pay b 1; pay c 1", "0 none"),
                             ("unit 1; pay a 0; pay b 1; pay c 3", "2 c"), ("unit 2;pay a 1;pay b 1;pay c 2", "what"),
                             ("unit 2; pay a 2; pay b 2; pay c 2", "what"), ("unit 2; pay a 1; pay b 1; pay c 2;", "what"),
                             ("unit 2; pay a 1; pay b 1; pay c 2; ", "what"), ("unit 2;  pay a 1; pay b 1; pay c 2", "what"),
                             ("unit 2; pay a 1; pay c 1; pay b 2", "what"), ("; unit 1; pay a 1", "what"), ("", "what"),
                             ("unit 1 ; pay a 1", "what"), ("unit 1; pay a 1; pay b 1", "charge"), ("pay a 1", "what"),
                             ("unit 1; pay a -5; pay b -5; pay c -5", "0 none"), ("unit 1; pay a 1; pay A 1", "what"),
                             ("unit 1; pay a " + "9" * 60 + "; pay b 0; pay c 0", "9" * 59 + "8 a"),
                             ("unit 1; pay a " + "9" * 61 + "; pay b 0; pay c 0", "what"),
                             ("unit 3; pay a -1; pay b 4; pay c 2", "1/3 b"), ("unit 1", "what"), ("unit 0; pay a 1", "what")):
            self.assertEqual(shell(f"worst {rest}"), answer, rest)
        for rest, answer in (("unit 2; pay a 1; pay b 1; pay c 2", "bill"), ("unit 1; pay a 0; pay b 1; pay c 1",
                             "within bill kept"), ("unit 1; pay a 0; pay b 0; pay c 0", "within"),
                             ("unit 1; pay a 9; pay b 0; pay c 0", "none"), ("unit 1; pay x 1", "none")):
            self.assertEqual(shell(f"is {rest}"), answer, rest)
        self.assertEqual([Shell(ROW)(f"beaten {charge_line(Charge(told))}") for told in (
            {"a": 1, "b": 0, "c": 1, "d": 0}, {"a": 1, "b": 1, "c": 0, "d": 0}, {"a": 2, "b": 0, "c": 0, "d": 0})],
            ["yes", "no", "operation"])
        self.assertEqual([Shell(BRIDGE)(f"lifted {charge_line(Charge({thing: int(thing in told) for thing in BRIDGE}))}")
                          for told in ("cd", "ab", "abc", "")], ["no", "yes", "yes", "yes"])

    def test_known_answers(self):
        shell = Shell(BRIDGE)
        for line, answer in (("knots", "a b c, d e f"), ("pieces", "a b c d e f"), ("layers", "a b c d e f"),
                             ("sides", "none"), ("parts", "3"), ("height", "1/2"), ("floor", "1/2"), ("fixing", "a"),
                             ("range a d", "1 1"), ("range a b", "0 2"), ("colours", "3"), ("colours c d", "2"),
                             ("properties", "enough good kept steady"), ("things", "a b c d e f"), ("labels", "none"),
                             ("kind a b c d e f", "yes"), ("kind c d a b e f", "no"), ("payers c d a b e f", "b c d"),
                             ("order", "a 1, b 1, c 1, d 0, e 0, f 0"), ("paper exact", "( =knot ( =c =d ) )"),
                             ("along", "operation")):
            self.assertEqual(shell(line), answer, line)
        self.assertEqual([Shell(DOT)(line) for line in ("fixing", "sides", "mean", "bill", "along", "paper parts", "paying x")],
                         ["none", "x", "x 1", "[ 1 =x 1 ]", "( [ 1 =x 1 ] )", "( =parts [ 1 =x 1 ] ( 1 { ( =x ) 1 } ) )", "1"])
        self.assertEqual([Shell(FIVE)(line) for line in ("properties", "parts", "mean", "sides")],
                         ["none", "5/2", "a 3/5, b 3/5, c 3/5, d 3/5, e 3/5", "none"])
        self.assertEqual(Shell(~EMPTY_EIGHT)("sides"), "a, b, c, d, e, f, g, h")

    def test_values_are_read_back(self):
        for web in (BOND, ROW, FIVE, BRIDGE, EIGHT, EMPTY_EIGHT, ~EMPTY_EIGHT):
            shell = Shell(web)
            for word, call in PAPERS.items():
                answer = shell(f"paper {word}")
                if not answer.startswith("spoiled"):
                    self.assertEqual(read_value(answer), call(web))
            self.assertEqual(read_value(shell("bill")), kept_bill(web))
            if shell("along") != "operation":
                self.assertEqual(read_value(shell("along")), Room(web).along())

    def test_the_room_is_a_twin(self):
        shell = Shell(BOND)
        room = shell.room()
        room.turn()
        self.assertEqual((shell("sides"), shell.room()), ("none", Room(BOND)))
        shell("turn")
        shell("undo")
        other = shell.room()
        self.assertEqual((other.redo(), shell("redo"), shell.room() == room), (1, "done", True))

    def test_no_web(self):
        for value in [value for value in OTHER_KINDS if not isinstance(value, Web)] + [Room(BOND), "web"]:
            self.refuses(InvalidWeb, lambda: Shell(value))
        with self.assertRaises(TypeError):
            iter(Shell(BOND))
        self.assertEqual(Shell(DOT)("undo " + str(LONGEST)), f"undo {LONGEST}")


if __name__ == "__main__":
    unittest.main()
