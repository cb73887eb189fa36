"""The examples of the document, as written there."""

import unittest

from huebill import errors
from huebill.base import numbers
from huebill.bills import charges, exists, kept
from huebill.webs import colours, webs

VALUES = """
>>> BOND = Web(("a", "b", "c"), (("b", "c"),))
>>> ROW = row_web(tuple("abcd"))
>>> FIVE = round_web(tuple("abcde"), 1)
>>> EIGHT = round_web(tuple("abcdefgh"), 1, 2)
>>> BRIDGE = Web(tuple("abcdef"), (("a", "b"), ("a", "c"), ("b", "c"), ("c", "d"), ("d", "e"), ("d", "f"), ("e", "f")))
"""

STAGE_1 = """
>>> [lowest(4, -6), lowest(0, 5), is_fraction((1, 2)), is_fraction((2, 4)), is_fraction((-3, 1)), is_name("road"), is_name("Road"), is_integer(True)]
[(-2, 3), (0, 1), True, False, True, True, False, False]
"""

STAGE_2 = """
>>> [str(BOND), FIVE.beside("a"), EIGHT.beside("a"), ROW.conflicts, (~ROW).conflicts, str(BOND.without_conflict("c", "b")), BOND.without("a", "a") == Web(("c", "b"), (("c", "b"), ("b", "c")))]
['web of a b c: b-c', ('b', 'e'), ('b', 'c', 'g', 'h'), (('a', 'b'), ('b', 'c'), ('c', 'd')), (('a', 'c'), ('a', 'd'), ('b', 'd')), 'web of a b c: -', True]
>>> [FIVE.part(("a", "b", "d")).conflicts, list(BOND.with_thing("d", beside=("a", "b"))), ROW.renamed({"a": "d", "d": "a"}) == ROW, ~FIVE == round_web(("a", "c", "e", "b", "d"), 1), len(BRIDGE), "g" in BRIDGE]
[(('a', 'b'),), ['a', 'b', 'c', 'd'], False, True, 6, False]
>>> BOND.without("a", "b", "c")
raises InvalidOperation
"""

STAGE_3 = """
>>> [len(groups(ROW)), full_loose(BOND), full_knots(BOND), [colours(web) for web in (BOND, ROW, FIVE, EIGHT, BRIDGE)], colours(FIVE, ("a", "b", "d")), colours(FIVE, ())]
[16, (('a', 'b'), ('a', 'c')), (('a',), ('b', 'c')), [2, 2, 3, 4, 3], 2, 0]
>>> [greatest_knots(BRIDGE), full_knots(BRIDGE)[2], is_colouring(ROW, ("a", "b", "c", "d"), (("a", "d"), ("b",), ("c",))), is_colouring(BOND, ("a", "b"), (("a", "b"),)), is_enough(EIGHT), is_enough(FIVE), is_enough(ROW), len(greatest_knots(EIGHT))]
[(('a', 'b', 'c'), ('d', 'e', 'f')), ('d', 'e', 'f'), False, True, False, False, True, 8]
"""

STAGE_4 = """
>>> half = Charge({"a": 2, "b": 2, "c": 4}, unit=4)
>>> [str(half), half["c"], half.unit, half.pays, half.total, half.of(("a", "b")), half == Charge({"c": 2, "b": 1, "a": 1}, unit=2), str(half.times(-1, 3))]
['a 1/2, b 1/2, c 1', (1, 1), 2, {'a': 1, 'b': 1, 'c': 2}, (2, 1), (1, 1), True, 'a -1/6, b -1/6, c -1/3']
>>> [str(half.mixed(knot_charge(BOND, ("b", "c")), 1, 3)), str(half - half), list(half.cut(("a", "c"))), str(half.cut(("a",)).put_beside(Charge({"x": 0}))), knot_charge(BOND, ()).total]
['a 1/6, b 5/6, c 1', 'a 0, b 0, c 0', ['a', 'c'], 'a 1/2, x 0', (0, 1)]
"""

STAGE_5 = """
>>> fair = Charge({"a": 0, "b": 1, "c": 1})
>>> [is_kept(BOND, fair), is_kept(BOND, half), excess(BOND, half, ("a", "c")), objections(BOND, half), worst(BOND, half), worst(BOND, fair), is_within(BOND, knot_charge(BOND, ("a",))), is_bill(BOND, half)]
[True, False, (1, 2), (('a', 'c'),), ((1, 2), ('a', 'c')), ((0, 1), ()), True, True]
>>> halves = Charge({thing: 1 for thing in EIGHT}, unit=2)
>>> [is_kept(EIGHT, halves), is_kept(EIGHT, knot_charge(EIGHT, ("a", "b", "c", "d"))), is_within(FIVE, Charge({thing: 1 for thing in FIVE}, unit=2)), objection(ROW, knot_charge(ROW, ("b", "c"))), [gain(BOND, fair, thing) for thing in BOND]]
[True, False, True, None, [(0, 1), (0, 1), (0, 1)]]
"""

STAGE_6 = """
>>> two = (2, {("a", "c"): 1, ("a", "d"): 1, ("b", "d"): 1, ("b", "e"): 1, ("c", "e"): 1})
>>> [parts_number(FIVE), parts_number(EIGHT), is_scale(FIVE, two), scale_total(FIVE, two), kept_bill(FIVE), has_kept(ROW), is_kept_paper(FIVE, ("scale", two)), kept_bill(EIGHT) == halves]
[(5, 2), (4, 1), True, (5, 2), None, True, True, True]
>>> [is_parts_paper(FIVE, ("parts", Charge({thing: 1 for thing in FIVE}, unit=2), two)), kept_paper(BOND) == ("kept", fair), has_kept(EIGHT.without("a")), parts_number(EIGHT.without("a")), kept_paper(FIVE)[0]]
[True, True, False, (7, 2), 'scale']
"""


def all_names():
    """What an example can call: all that the modules have."""
    names = {}
    for module in (errors, numbers, webs, colours, charges, kept, exists):
        names.update({name: value for name, value in vars(module).items() if not name.startswith("_")})
    return names


class Examples(unittest.TestCase):
    def told(self, text, names):
        """Does the rows behind `>>>` and compares each value with the row behind it; returns how many it compared."""
        rows = text.strip().split("\n")
        compared = 0
        for row, behind in zip(rows, rows[1:] + [">>> "]):
            if not row.startswith(">>> "):
                continue
            code = row[4:]
            if behind.startswith(">>> "):
                exec(code, names)
            elif behind.startswith("raises "):
                compared += 1
                with self.assertRaises(names[behind[7:]], msg=code):
                    eval(code, names)
            else:
                compared += 1
                self.assertEqual(repr(eval(code, names)), behind, code)
        return compared

    def test_as_written(self):
        names = all_names()
        self.assertEqual(self.told(VALUES, names), 0)
        counts = [self.told(text, names) for text in (STAGE_1, STAGE_2, STAGE_3, STAGE_4, STAGE_5, STAGE_6)]
        self.assertEqual(counts, [1, 3, 2, 2, 2, 2])

    def test_the_values_of_the_examples(self):
        names = all_names()
        self.told(VALUES, names)
        self.assertEqual([len(names[name]) for name in ("BOND", "ROW", "FIVE", "EIGHT", "BRIDGE")], [3, 4, 5, 8, 6])
        eight = names["EIGHT"]
        self.assertEqual(len(eight.conflicts), 16)
        self.assertTrue(all(len(eight.beside(thing)) == 4 for thing in eight))
        self.assertEqual(str(names["BRIDGE"]), "web of a b c d e f: a-b a-c b-c c-d d-e d-f e-f")


if __name__ == "__main__":
    unittest.main()
