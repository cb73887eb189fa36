"""The examples of the document, as written there."""

import unittest

from huebill import errors
from huebill.base import numbers
from huebill.bills import charges, even, exact, exists, kept, mixtures, shared, steady
from huebill.orders import orders, shrinking
from huebill.plans import plans
from huebill.room import room
from huebill.small import small
from huebill.text import formats, rooms, shell
from huebill.webs import colours, good, joined, webs

VALUES = """
>>> BOND = Web(("a", "b", "c"), (("b", "c"),))
>>> ROW = row_web(tuple("abcd"))
>>> FIVE = round_web(tuple("abcde"), 1)
>>> EIGHT = round_web(tuple("abcdefgh"), 1, 2)
>>> BRIDGE = Web(tuple("abcdef"), (("a", "b"), ("a", "c"), ("b", "c"), ("c", "d"), ("d", "e"), ("d", "f"), ("e", "f")))
"""

STAGE_1 = """
>>> [lowest(4, -6), lowest(0, 5), is_fraction((1, 2)), is_fraction((2, 4)), is_fraction((-3, 1)), is_name("road"), is_name("Road"), is_integer(True)]
[(-2, 3), (0, 1), True, False, True, True, False, False]
"""

STAGE_2 = """
>>> [str(BOND), FIVE.beside("a"), EIGHT.beside("a"), ROW.conflicts, (~ROW).conflicts, str(BOND.without_conflict("c", "b")), BOND.without("a", "a") == Web(("c", "b"), (("c", "b"), ("b", "c")))]
['web of a b c: b-c', ('b', 'e'), ('b', 'c', 'g', 'h'), (('a', 'b'), ('b', 'c'), ('c', 'd')), (('a', 'c'), ('a', 'd'), ('b', 'd')), 'web of a b c: -', True]
>>> [FIVE.part(("a", "b", "d")).conflicts, list(BOND.with_thing("d", beside=("a", "b"))), ROW.renamed({"a": "d", "d": "a"}) == ROW, ~FIVE == round_web(("a", "c", "e", "b", "d"), 1), len(BRIDGE), "g" in BRIDGE]
[(('a', 'b'),), ['a', 'b', 'c', 'd'], False, True, 6, False]
>>> BOND.without("a", "b", "c")
raises InvalidOperation
"""

STAGE_3 = """
>>> [len(groups(ROW)), full_loose(BOND), full_knots(BOND), [colours(web) for web in (BOND, ROW, FIVE, EIGHT, BRIDGE)], colours(FIVE, ("a", "b", "d")), colours(FIVE, ())]
[16, (('a', 'b'), ('a', 'c')), (('a',), ('b', 'c')), [2, 2, 3, 4, 3], 2, 0]
>>> [greatest_knots(BRIDGE), full_knots(BRIDGE)[2], is_colouring(ROW, ("a", "b", "c", "d"), (("a", "d"), ("b",), ("c",))), is_colouring(BOND, ("a", "b"), (("a", "b"),)), is_enough(EIGHT), is_enough(FIVE), is_enough(ROW), len(greatest_knots(EIGHT))]
[(('a', 'b', 'c'), ('d', 'e', 'f')), ('d', 'e', 'f'), False, True, False, False, True, 8]
"""

STAGE_4 = """
>>> half = Charge({"a": 2, "b": 2, "c": 4}, unit=4)
>>> [str(half), half["c"], half.unit, half.pays, half.total, half.of(("a", "b")), half == Charge({"c": 2, "b": 1, "a": 1}, unit=2), str(half.times(-1, 3))]
['a 1/2, b 1/2, c 1', (1, 1), 2, {'a': 1, 'b': 1, 'c': 2}, (2, 1), (1, 1), True, 'a -1/6, b -1/6, c -1/3']
>>> [str(half.mixed(knot_charge(BOND, ("b", "c")), 1, 3)), str(half - half), list(half.cut(("a", "c"))), str(half.cut(("a",)).put_beside(Charge({"x": 0}))), knot_charge(BOND, ()).total]
['a 1/6, b 5/6, c 1', 'a 0, b 0, c 0', ['a', 'c'], 'a 1/2, x 0', (0, 1)]
"""

STAGE_5 = """
>>> fair = Charge({"a": 0, "b": 1, "c": 1})
>>> [is_kept(BOND, fair), is_kept(BOND, half), excess(BOND, half, ("a", "c")), objections(BOND, half), worst(BOND, half), worst(BOND, fair), is_within(BOND, knot_charge(BOND, ("a",))), is_bill(BOND, half)]
[True, False, (1, 2), (('a', 'c'),), ((1, 2), ('a', 'c')), ((0, 1), ()), True, True]
>>> halves = Charge({thing: 1 for thing in EIGHT}, unit=2)
>>> [is_kept(EIGHT, halves), is_kept(EIGHT, knot_charge(EIGHT, ("a", "b", "c", "d"))), is_within(FIVE, Charge({thing: 1 for thing in FIVE}, unit=2)), objection(ROW, knot_charge(ROW, ("b", "c"))), [gain(BOND, fair, thing) for thing in BOND]]
[True, False, True, None, [(0, 1), (0, 1), (0, 1)]]
"""

STAGE_6 = """
>>> two = (2, {("a", "c"): 1, ("a", "d"): 1, ("b", "d"): 1, ("b", "e"): 1, ("c", "e"): 1})
>>> [parts_number(FIVE), parts_number(EIGHT), is_scale(FIVE, two), scale_total(FIVE, two), kept_bill(FIVE), has_kept(ROW), is_kept_paper(FIVE, ("scale", two)), kept_bill(EIGHT) == halves]
[(5, 2), (4, 1), True, (5, 2), None, True, True, True]
>>> [is_parts_paper(FIVE, ("parts", Charge({thing: 1 for thing in FIVE}, unit=2), two)), kept_paper(BOND) == ("kept", fair), has_kept(EIGHT.without("a")), parts_number(EIGHT.without("a")), kept_paper(FIVE)[0]]
[True, True, False, (7, 2), 'scale']
"""

STAGE_7 = """
>>> [is_good(ROW), is_good(BRIDGE), is_good(FIVE), spoiled_group(FIVE), spoiled_group(EIGHT.without("a", "c", "e")) , is_good(~ROW), knot_in(BRIDGE, ("b", "c", "d")), knot_in(FIVE, ("a", "c"))]
[True, True, False, ('a', 'b', 'c', 'd', 'e'), None, True, ('b', 'c'), ('a',)]
>>> [is_good_paper(FIVE, ("ring", ("c", "b", "a", "e", "d"))), is_good_paper(BOND, ("good", {("a",): ("a",), ("b",): ("b",), ("c",): ("c",), ("a", "b"): ("b",), ("a", "c"): ("a",), ("b", "c"): ("b", "c"), ("a", "b", "c"): ("b", "c")})), good_paper(FIVE)[0], is_good(EIGHT), len(spoiled_group(EIGHT))]
[True, True, 'ring', False, 5]
"""

STAGE_8 = """
>>> flat = Charge({thing: 1 for thing in ROW}, unit=2)
>>> [is_mixing(ROW, (4, {("a", "b"): 2, ("c", "d"): 2})), is_mixing(BOND, (1, {("a",): 1})), mixing_charge(ROW, (4, {("a", "b"): 2, ("c", "d"): 2})) == flat, is_mixing_of(ROW, flat, (2, {("a", "b"): 1, ("c", "d"): 1})), mixing_charge(ROW, mixing(ROW, flat)) == flat, pay_range(ROW, ("a", "d"))]
[True, False, True, True, True, (0, 1)]
>>> [pay_range(BRIDGE, ("a", "d")), pay_range(BRIDGE, ("a", "b")), never_pay(BOND), always_pay(BOND), str(bill_with(BRIDGE, ("a", "b"), 1, 2))]
[(1, 1), (0, 2), ('a',), ('b', 'c'), 'a 1/4, b 1/4, c 1/4, d 3/4, e 3/4, f 3/4']
>>> [fixing_group(ROW), is_fixing(ROW, ("a", "c")), is_fixing(ROW, ("a", "d")), freedom(BRIDGE), fixing_group(BOND), alike_at(BRIDGE, ("f",)), [one.of(("a", "c")) for one in alike_at(ROW, ("a", "c"))]]
[('a', 'b'), False, True, 1, (), None, [(1, 1), (1, 1)]]
>>> freedom(FIVE)
raises Spoiled(('a', 'b', 'c', 'd', 'e'))
"""

STAGE_9 = """
>>> STAR = Web(tuple("abcd"), (("a", "b"), ("a", "c"), ("a", "d")))
>>> [least_height(BRIDGE), greatest_floor(BRIDGE), least_height(BOND), greatest_floor(BOND), least_height(STAR), greatest_floor(STAR), str(equal_bill(FIVE)), [is_equal_kept(web) for web in (BOND, ROW, FIVE, EIGHT, BRIDGE, STAR)]]
[(1, 2), (1, 2), (1, 1), (0, 1), (1, 1), (1, 3), 'a 3/5, b 3/5, c 3/5, d 3/5, e 3/5', [False, True, False, True, True, False]]
>>> third = Charge({"a": 3, "b": 1, "c": 1, "d": 1}, unit=3)
>>> [is_floor_paper(STAR, ("floor", third, (3, {"b": 1, "c": 1, "d": 1}))), is_floor_paper(STAR, ("floor", third, (1, {"b": 1}))), is_height_paper(STAR, ("height", third, (5, {"a": 5}))), height_paper(ROW)[1] == equal_bill(ROW), floor_paper(BOND)[1].of(("a",))]
[True, False, True, True, (0, 1)]
"""

STAGE_10 = """
>>> [payers(BOND, ("a", "b", "c")), is_kind(BOND, ("a", "b", "c")), str(order_bill(BOND, ("b", "a", "c"))), list(kind_orders(BOND)), str(mean_bill(BOND)), is_kept(BOND, mean_bill(BOND))]
[('a', 'c'), False, 'a 0, b 1, c 1', [('b', 'a', 'c'), ('b', 'c', 'a'), ('c', 'a', 'b'), ('c', 'b', 'a')], 'a 1/3, b 5/6, c 5/6', False]
>>> [count_paying(BOND, ("b", "c")), count_paying(BOND, ("a", "b")), count_paying(BOND, ("a",)), count_kind(FIVE), kind_order(EIGHT), order_paying(BOND, ("a", "b")), kind_bills(BRIDGE), mean_bill(EIGHT) == equal_bill(EIGHT), is_order(ROW, ("a", "b", "c"))]
[4, 1, 0, 0, None, ('a', 'c', 'b'), (('a', 'b', 'c'), ('d', 'e', 'f')), True, False]
"""

STAGE_11 = """
>>> [cost(BOND, ("a",), "b"), cost(BOND, ("a", "c"), "b"), is_shrinking(BOND), sides(BOND), sides(~BOND), sides(FIVE), is_shrinking_paper(BOND, ("bond", "c", "b", "a")), is_shrinking_paper(~BOND, ("sides", (("a",), ("b", "c"))))]
[0, 1, False, None, (('a',), ('b', 'c')), None, True, True]
>>> [growing(~BOND), str(mean_bill(~BOND)), count_kind(~BOND), kind_bills(~BOND), shrinking_paper(~BOND)]
[None, 'a 1, b 1/2, c 1/2', 6, (('a', 'b'), ('a', 'c')), ('sides', (('a',), ('b', 'c')))]
"""

STAGE_12 = """
>>> bond = ("free", "a", ("over", ("one", "b"), ("one", "c")))
>>> [is_tree(BOND, bond), tree(ROW), str(tree_bill(BOND, bond, ("a", "c"))), str(tree_bill(BOND, bond, ("a",))), [str(one) for one in bills_along(BOND, bond, ("a", "c", "b"))], has_plan(EIGHT)]
[True, None, 'a 0, c 1', 'a 1', ['a 1', 'a 0, c 1', 'a 0, b 1, c 1'], False]
>>> [is_plan_paper(ROW, ("row", "d", "c", "b", "a")), is_plan_paper(BRIDGE, ("apart", "a", "b", "e", "f")), is_plan_paper(BOND, ("tree", bond)), plan_paper(ROW)[0], is_plan(BOND, tree_plan(BOND, bond)), plan(FIVE)]
[True, True, True, 'row', True, None]
>>> bills = {**tree_plan(BOND, bond), ("a", "c"): Charge({"a": 1, "c": 0})}
>>> [rises(BOND, bills), is_plan(BOND, bills), rises(BOND, tree_plan(BOND, bond)), len(tree_plan(BOND, bond)), is_plan(BOND, mixed_plan(BOND, tree_plan(BOND, bond), plan(BOND), 2, 5))]
[(('c', ('a', 'c'), ('a', 'b', 'c')),), False, (), 7, True]
"""

STAGE_13 = """
>>> [is_exact(ROW), is_exact(BRIDGE), is_exact(BOND), is_exact(FIVE), is_exact_paper(BRIDGE, ("knot", ("c", "d"))), is_exact_paper(BOND, ("knot", ("a",))), is_exact_paper(FIVE, ("ring", tuple("abcde"))), exact_paper(ROW)[0], paying_bill(BRIDGE, ("c", "d"))]
[True, False, False, False, True, True, True, 'exact', None]
>>> low = knot_charge(BRIDGE, ("c", "d"))
>>> [lift(BRIDGE, low), is_lift_paper(BRIDGE, low, ("pulls", {"c": 1, "d": 1})), is_wide(BRIDGE), is_wide_paper(BRIDGE, ("low", low, {"c": 2, "d": 2})), lift(ROW, knot_charge(ROW, ("a",))) == knot_charge(ROW, ("a", "b")), is_wide(ROW), is_lift_paper(ROW, knot_charge(ROW, ("b",)), ("lift", knot_charge(ROW, ("b", "c"))))]
[None, True, False, True, True, True, True]
"""

STAGE_14 = """
>>> ask = knot_charge(ROW, ("a", "c"))
>>> calm = Charge({"a": 1, "b": 2, "c": 1, "d": 0}, unit=2)
>>> [is_proposal(ROW, ask), is_kept(ROW, calm), does_beat(ROW, calm, ask, ("a", "c")), does_beat(ROW, calm, ask, ("a",)), is_beaten(ROW, ask), is_beaten(BOND, half), is_proposal(ROW, ask.times(2))]
[True, True, True, False, True, False, False]
>>> bill, group = beating(ROW, ask)
>>> [does_beat(ROW, bill, ask, group), [is_steady(web) for web in (BOND, ROW, BRIDGE)], steady_paper(BOND), unbeaten(ROW), is_steady_paper(ROW, ("steady", {"a": ("a", "b"), "b": ("a", "b"), "c": ("b", "c"), "d": ("c", "d")}))]
[True, [False, True, True], ('left', 'a'), None, True]
>>> is_steady(FIVE)
raises Spoiled
"""

STAGE_15 = """
>>> PAIRS = Web(tuple("abcd"), (("a", "b"), ("c", "d")))
>>> both = {("a", "b"): (1, Charge({"a": 1, "b": 1})), ("c", "d"): (3, Charge({"c": 1, "d": 1}))}
>>> [pieces(BOND), layers(BOND), layers(~PAIRS), shares(BOND, fair), str(put_together(PAIRS, both)), is_kept(PAIRS, put_together(PAIRS, both)), shares(PAIRS, put_together(PAIRS, both))]
[(('a',), ('b', 'c')), (('a', 'b', 'c'),), (('a', 'b'), ('c', 'd')), {('a',): (0, 1), ('b', 'c'): (1, 1)}, 'a 1/4, b 1/4, c 3/4, d 3/4', True, {('a', 'b'): (1, 4), ('c', 'd'): (3, 4)}]
>>> DOT = Web(("x",), ())
>>> TOP = laid_over(BOND, DOT)
>>> [TOP.beside("x"), laid_beside(DOT, BOND).conflicts, str(put_over(TOP, {("a", "b", "c"): fair, ("x",): Charge({"x": 1})})), layer_bills(~PAIRS, knot_charge(~PAIRS, ("a", "c")))[("c", "d")] == Charge({"c": 1, "d": 0}), piece_bills(BOND, fair) == {("b", "c"): fair.cut(("b", "c"))}]
[('a', 'b', 'c'), (('b', 'c'),), 'a 0, b 1, c 1, x 1', True, True]
>>> laid_over(BOND, ROW)
raises InvalidOperation
"""

STAGE_16 = """
>>> [properties(BOND), properties(ROW), properties(EIGHT), [count_webs(4, label) for label in ("exact", "good", "planned", "shrinking")], len(list(all_webs(("a", "b", "c"))))]
[('enough', 'good', 'kept', 'planned'), ('enough', 'exact', 'good', 'kept', 'steady'), ('kept',), [30, 64, 49, 15], 8]
>>> [first_web(tuple("abcd"), ("exact",), ("planned",)).conflicts, first_web(tuple("abc"), ("planned",), ("exact",)).conflicts, first_web(tuple("abcd"), ("steady",), ("exact",)), is_alike_by(FIVE, ~FIVE, {"a": "a", "b": "c", "c": "e", "d": "b", "e": "d"}), alike_by(BOND, BOND.without_conflict("b", "c"))]
[(('a', 'b'), ('c', 'd')), (('a', 'b'),), None, True, None]
"""

STAGE_17 = """
>>> room = Room(BOND)
>>> [room.hold("plan", "planned"), room.hold("two", ("colours", 2)), room.would_break(BOND.with_thing("d", beside=("b", "c"))), room.would_break(~ROW), room.tie("b", "a"), str(room)]
[None, None, ('two',), ('plan',), None, 'room of a b c: 2 holds']
>>> [room.go("a"), room.come("a", beside=("c",)), room.things, str(room.web), room.undo(many=2), room.redo(), room.things, room.labels]
[None, None, ('b', 'c', 'a'), 'web of a b c: a-c b-c', 3, 4, ('b', 'c'), ('plan', 'two')]
>>> [str(Room(ROW).order_bill()), is_along(Room(BOND), (Charge({"a": 1}), Charge({"a": 0, "b": 1}), fair)), is_along(Room(BOND), (Charge({"a": 1}), Charge({"a": 1, "b": 0}), fair)), is_hold("round"), is_hold(("loose", ("x", "y")))]
['a 1, b 1, c 0, d 0', True, False, False, True]
>>> room.come("d", beside=("b", "c"))
raises Broken
"""

STAGE_18 = r"""
>>> [write_web(BOND).split("\n"), write_charge(half).split("\n"), write_web(Web(("x",), ())), read_web(write_web(EIGHT)) == EIGHT]
[['things a b c', 'conflict b c'], ['unit 2', 'pay a 1', 'pay b 1', 'pay c 2'], 'things x', True]
>>> [write_value(("kept", fair)), write_value({("a", "c"): -2, ("a",): None, "a": ("b", {})}), read_value("[ 1 =a 0 =b 1 =c 1 ]") == fair, read_value("{ =low ( ) }")]
['( =kept [ 1 =a 0 =b 1 =c 1 ] )', '{ ( =a ) none ( =a =c ) -2 =a ( =b { } ) }', True, {'low': ()}]
>>> small = Room(BOND)
>>> [small.hold("two", ("colours", 2)), small.hold("plan", "planned"), small.go("b"), small.come("b"), write_room(small).split("\n"), read_room(write_room(small)) == small]
[None, None, None, None, ['things a c b', 'hold plan planned', 'hold two colours 2'], True]
>>> read_web("things a b\nconflict b")
raises ParseError(1)
>>> read_charge("unit 2\npay a 2\npay b 4")
raises ParseError(3)
"""

STAGE_19 = r"""
>>> shell = Shell(BOND)
>>> [shell("hold two colours 2"), shell("come d a"), shell("properties"), shell("come e b c"), shell("labels"), shell("pieces"), shell("colours a b"), shell("things")]
['done', 'done', 'enough exact good kept steady', 'broken two', 'two', 'a d, b c', '1', 'a b c d']
>>> [shell("worst unit 2; pay a 1; pay b 1; pay c 2; pay d 0"), shell("is unit 2; pay a 1; pay b 1; pay c 1; pay d 1"), shell("mean"), shell("range a b"), shell("undo"), shell("sides"), shell("turn"), shell("sides"), shell("paper shrinking")]
['1/2 a c', 'within bill kept', 'a 1/2, b 1/2, c 1/2, d 1/2', '1 1', 'done', 'none', 'done', 'a, b c', '( =sides ( ( =a ) ( =b =c ) ) )']
>>> [shell("kind a b c"), shell("payers c a b"), shell("paying a b"), shell("tie a d"), shell("colours b a"), shell("hold Two good"), shell("hold three round"), shell("hold three loose"), shell("undo 9"), shell("go"), shell("order"), shell("show").split("\n")]
['yes', 'a c', '3', 'unknown d', 'group', 'name', 'operation', 'done', 'undo 9', 'what', 'a 1, b 1, c 0', ['things a b c', 'conflict a b', 'conflict a c', 'hold three loose', 'hold two colours 2']]
>>> five = Shell(FIVE)
>>> [five("height"), five("parts"), five("bill"), five("is unit 2; pay a 1; pay b 1; pay c 1; pay d 1; pay e 1"), five("worst unit 1; pay a 0; pay b 0; pay c 0; pay d 0; pay e 0"), five("beaten unit 1; pay a 3"), five("layers")]
['spoiled a b c d e', '5/2', 'none', 'within', '0 none', 'charge', 'a b c d e']
"""


def all_names():
    """What an example can call: all that the modules have."""
    names = {}
    modules = (errors, numbers, webs, colours, charges, kept, exists, good, mixtures, even, orders, shrinking, plans,
               exact, steady, joined, shared, small, room, formats, rooms, shell)
    for module in modules:
        names.update({name: value for name, value in vars(module).items() if not name.startswith("_")})
    return names


class Examples(unittest.TestCase):
    def told(self, text, names):
        """Does the rows behind `>>>` and compares each value with the row behind it; returns how many it compared."""
        rows = text.strip().split("\n")
        compared = 0
        for row, behind in zip(rows, rows[1:] + [">>> "]):
            if not row.startswith(">>> "):
                continue
            code = row[4:]
            if behind.startswith(">>> "):
                exec(code, names)
            elif behind.startswith("raises "):
                compared += 1
                self.raises(behind[7:], code, names)
            else:
                compared += 1
                self.assertEqual(repr(eval(code, names)), behind, code)
        return compared

    def raises(self, told, code, names):
        """Told is the name of an error; what it keeps can stand in brackets behind it."""
        error, _, kept_one = told.partition("(")
        with self.assertRaises(names[error], msg=code) as caught:
            eval(code, names)
        if kept_one:
            self.assertEqual([repr(value) for value in vars(caught.exception).values()], [kept_one[:-1]], code)

    def test_as_written(self):
        names = all_names()
        self.assertEqual(self.told(VALUES, names), 0)
        texts = (STAGE_1, STAGE_2, STAGE_3, STAGE_4, STAGE_5, STAGE_6, STAGE_7, STAGE_8, STAGE_9, STAGE_10, STAGE_11,
                 STAGE_12, STAGE_13, STAGE_14, STAGE_15, STAGE_16, STAGE_17, STAGE_18, STAGE_19)
        self.assertEqual([self.told(text, names) for text in texts], [1, 3, 2, 2, 2, 2, 2, 4, 2, 2, 2, 3, 2, 3, 3, 2, 4, 5, 4])

    def test_the_values_of_the_examples(self):
        names = all_names()
        self.told(VALUES, names)
        self.assertEqual([len(names[name]) for name in ("BOND", "ROW", "FIVE", "EIGHT", "BRIDGE")], [3, 4, 5, 8, 6])
        eight = names["EIGHT"]
        self.assertEqual(len(eight.conflicts), 16)
        self.assertTrue(all(len(eight.beside(thing)) == 4 for thing in eight))
        self.assertEqual(str(names["BRIDGE"]), "web of a b c d e f: a-b a-c b-c c-d d-e d-f e-f")


if __name__ == "__main__":
    unittest.main()
