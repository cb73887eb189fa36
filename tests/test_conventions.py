"""The conventions that hold everywhere [0.1] to [0.6], and the interface: names, modules and classes."""

import importlib
import unittest

from huebill import errors
from huebill.base.numbers import MAX_DIGITS, MAX_NAME, MAX_THINGS
from huebill.bills.charges import Charge, knot_charge
from huebill.bills.even import (
    equal_bill, floor_paper, greatest_floor, height_paper, is_floor_paper, is_height_paper, least_height,
)
from huebill.bills.exact import exact_paper, is_exact_paper, is_lift_paper, is_wide_paper, wide_paper
from huebill.bills.exists import (
    is_kept_paper, is_parts_paper, is_scale, kept_bill, kept_paper, parts_paper, scale_total,
)
from huebill.bills.kept import is_bill, is_kept, is_within, objections, worst
from huebill.bills.mixtures import (
    alike_at, always_pay, bill_with, fixing_group, freedom, is_mixing, is_mixing_of, mixing, mixing_charge, never_pay,
    pay_range,
)
from huebill.bills.shared import shares
from huebill.bills.steady import is_proposal, is_steady_paper, steady_paper, unbeaten
from huebill.orders.orders import (
    count_kind, count_paying, is_order, kind_bills, kind_order, mean_bill, order_bill, order_paying, payers,
)
from huebill.orders.shrinking import growing, is_shrinking_paper, shrinking_paper
from huebill.plans.plans import (
    is_plan, is_plan_paper, is_tree, mixed_plan, plan, plan_paper, rises, tree, tree_plan,
)
from huebill.room.room import HOLD_WORDS, MAX_HOLDS, Room
from huebill.small.small import MAX_SMALL, PROPERTIES, alike_by, is_alike_by, properties
from huebill.text.shell import Shell
from huebill.webs.colours import (
    colouring, full_knots, full_loose, greatest_knots, groups, is_colouring, is_group, is_knot, is_loose, loose_groups,
)
from huebill.webs.good import good_paper, is_good, is_good_paper, knot_in, spoiled_group
from huebill.webs.joined import layers, pieces
from huebill.webs.webs import Web, round_web, row_web
from tests.helper import BOND, EIGHT, FIVE, OTHER_KINDS, ROW, Case, big_webs

INTERFACE = {
    "huebill.errors": (
        "BillError", "InvalidName", "InvalidWeb", "InvalidGroup", "InvalidCharge", "InvalidOrder", "InvalidPlan",
        "InvalidOperation", "ParseError", "InvalidNumber", "UnknownName", "TooMany", "NothingToUndo", "Broken",
        "Spoiled",
    ),
    "huebill.base.numbers": ("is_integer", "is_name", "is_fraction", "lowest"),
    "huebill.webs.webs": ("Web", "round_web", "row_web"),
    "huebill.webs.colours": (
        "groups", "is_group", "is_loose", "is_knot", "loose_groups", "full_loose", "full_knots", "greatest_knots",
        "colours", "is_colouring", "colouring", "is_enough",
    ),
    "huebill.bills.charges": ("Charge", "knot_charge"),
    "huebill.bills.kept": (
        "excess", "is_within", "is_bill", "is_kept", "objection", "objections", "worst", "gain",
    ),
    "huebill.bills.exists": (
        "is_scale", "scale_total", "parts_number", "parts_paper", "is_parts_paper", "has_kept", "kept_bill",
        "kept_paper", "is_kept_paper",
    ),
    "huebill.webs.good": ("is_good", "spoiled_group", "good_paper", "is_good_paper", "knot_in"),
    "huebill.bills.mixtures": (
        "is_mixing", "mixing_charge", "mixing", "is_mixing_of", "pay_range", "bill_with", "never_pay", "always_pay",
        "is_fixing", "fixing_group", "freedom", "alike_at",
    ),
    "huebill.bills.even": (
        "least_height", "greatest_floor", "height_paper", "is_height_paper", "floor_paper", "is_floor_paper",
        "equal_bill", "is_equal_kept",
    ),
    "huebill.orders.orders": (
        "is_order", "order_bill", "payers", "is_kind", "kind_order", "kind_orders", "count_paying", "count_kind",
        "order_paying", "mean_bill", "kind_bills",
    ),
    "huebill.orders.shrinking": (
        "cost", "is_shrinking", "sides", "shrinking_paper", "is_shrinking_paper", "growing",
    ),
    "huebill.plans.plans": (
        "is_tree", "tree", "tree_bill", "bills_along", "has_plan", "plan_paper", "is_plan_paper", "is_plan", "plan",
        "tree_plan", "rises", "mixed_plan",
    ),
    "huebill.bills.exact": (
        "is_exact", "exact_paper", "is_exact_paper", "paying_bill", "lift", "lift_paper", "is_lift_paper", "is_wide",
        "wide_paper", "is_wide_paper",
    ),
    "huebill.bills.steady": (
        "is_proposal", "does_beat", "is_beaten", "beating", "is_steady", "unbeaten", "steady_paper", "is_steady_paper",
    ),
    "huebill.webs.joined": ("laid_beside", "laid_over", "pieces", "layers"),
    "huebill.bills.shared": ("shares", "piece_bills", "layer_bills", "put_together", "put_over"),
    "huebill.small.small": (
        "properties", "all_webs", "count_webs", "first_web", "alike_by", "is_alike_by",
    ),
    "huebill.room.room": ("Room", "is_hold", "is_along"),
    "huebill.text.formats": (
        "write_web", "write_charge", "write_value", "read_web", "read_charge", "read_value",
    ),
    "huebill.text.rooms": ("write_room", "read_room"),
    "huebill.text.shell": ("Shell",),
}
WEB = (
    "things", "conflicts", "beside", "are_tied", "with_conflict", "without_conflict", "with_thing", "without", "part",
    "turned", "renamed", "__invert__", "__contains__", "__len__", "__iter__", "__eq__", "__str__",
)
CHARGE = (
    "things", "unit", "pays", "total", "of", "cut", "times", "mixed", "put_beside", "__getitem__", "__add__", "__sub__",
    "__contains__", "__len__", "__iter__", "__eq__", "__str__",
)
ROOM = (
    "web", "things", "labels", "holds", "come", "go", "tie", "untie", "turn", "hold", "release", "would_break",
    "order_bill", "along", "undo", "redo", "trial", "during", "twin", "__contains__", "__len__", "__iter__", "__eq__",
    "__str__",
)
SHELL = ("room", "answer", "__call__")


class Interface(Case):
    def test_names_stand_in_their_modules(self):
        for module, names in INTERFACE.items():
            found = importlib.import_module(module)
            for name in names:
                self.assertEqual(getattr(found, name).__module__, module, name)

    def test_methods_stand_in_their_classes(self):
        for name in WEB:
            self.assertIn(name, vars(Web))
        for name in CHARGE:
            self.assertIn(name, vars(Charge))
        for name in ROOM:
            self.assertIn(name, vars(Room))
        for name in SHELL:
            self.assertIn(name, vars(Shell))

    def test_constants(self):
        self.assertEqual((MAX_DIGITS, MAX_NAME, MAX_THINGS, MAX_SMALL, MAX_HOLDS), (60, 8, 8, 5, 8))
        self.assertEqual(PROPERTIES, ("enough", "exact", "good", "kept", "planned", "shrinking", "steady"))
        self.assertEqual(HOLD_WORDS, PROPERTIES)

    def test_arguments_by_position_and_by_keyword(self):
        room = Room(BOND)
        for call in (lambda: room.come("d", ("a",)), lambda: room.undo(0), lambda: room.redo(0),
                     lambda: BOND.with_thing("d", ("a",)), lambda: Charge({"a": 1}, 2)):
            with self.assertRaises(TypeError):
                call()
        self.assertEqual((room.come("d", beside=("a",)), room.undo(many=1), room.redo(many=1)), (None, 0, 1))

    def test_properties_cannot_be_set(self):
        charge = Charge({"a": 1})
        for thing, names in ((BOND, ("things", "conflicts")), (charge, ("things", "unit", "pays", "total")),
                             (Room(BOND), ("web", "things", "labels", "holds"))):
            for name in names:
                with self.assertRaises(AttributeError):
                    setattr(thing, name, None)


class Apart(Case):
    """No call changes its arguments, and no state is shared [0.2]."""

    def test_a_charge_is_apart_from_its_dict(self):
        pays = {"c": 4, "a": 2}
        charge = Charge(pays, unit=2)
        self.assertEqual(list(pays.items()), [("c", 4), ("a", 2)])
        pays["a"] = 100
        pays.clear()
        self.assertEqual(str(charge), "a 1, c 2")

    def test_a_charge_is_apart_from_what_it_hands_out(self):
        charge = Charge({"a": 1, "b": 2})
        charge.pays["a"] = 100
        charge.pays.clear()
        self.assertEqual((charge.pays, str(charge)), ({"a": 1, "b": 2}, "a 1, b 2"))
        for made in (charge + charge, charge.times(2), charge.cut(("a",)), charge.mixed(charge, 1, 2)):
            made.pays.clear()
            self.assertGreater(len(made.pays), 0)
        self.assertEqual(charge, Charge({"a": 1, "b": 2}))

    def test_names_are_left_as_they_were(self):
        names = {"c": "a", "a": "c"}
        BOND.renamed(names)
        self.assertEqual(list(names.items()), [("c", "a"), ("a", "c")])

    def test_papers_are_apart(self):
        for web in (BOND, FIVE, EIGHT):
            before = parts_paper(web)
            parts_paper(web)[2][1].clear()
            self.assertEqual(parts_paper(web), before)
        kept_paper(FIVE)[1][1].clear()
        self.is_true(is_kept_paper(FIVE, kept_paper(FIVE)))

    def test_papers_of_good_webs_are_apart(self):
        for call, at in ((good_paper, 1), (height_paper, 2), (floor_paper, 2)):
            before = call(ROW)
            told = call(ROW)[at] if at == 1 else call(ROW)[at][1]
            told.clear()
            self.assertEqual(call(ROW), before)
        bill = kept_bill(ROW)
        before = mixing(ROW, bill)
        mixing(ROW, bill)[1].clear()
        self.assertEqual(mixing(ROW, bill), before)

    def test_shares_are_left_as_they_were(self):
        parts = {("c", "d"): 1, ("a", "b"): 2}
        charge = mixing_charge(ROW, (3, parts))
        self.is_true(is_mixing(ROW, (3, parts)))
        self.is_true(is_mixing_of(ROW, charge, (3, parts)))
        self.is_false(is_mixing(ROW, (2, parts)))
        self.refuses(errors.InvalidOperation, lambda: mixing_charge(ROW, (2, parts)))
        self.assertEqual(list(parts.items()), [(("c", "d"), 1), (("a", "b"), 2)])
        parts.clear()
        self.assertEqual(str(charge), "a 2/3, b 2/3, c 1/3, d 1/3")
        weights = {"d": 1, "a": 1}
        self.is_true(is_floor_paper(ROW, ("floor", equal_bill(ROW), (2, weights))))
        self.assertEqual(list(weights.items()), [("d", 1), ("a", 1)])
        knots = dict(list(good_paper(BOND)[1].items())[::-1])
        self.is_true(is_good_paper(BOND, ("good", knots)))
        self.assertEqual(list(knots), list(good_paper(BOND)[1])[::-1])

    def test_the_order_of_shares_has_no_effect(self):
        one = (3, {("a", "b"): 2, ("c", "d"): 1})
        other = (3, {("c", "d"): 1, ("a", "b"): 2})
        self.assertEqual(mixing_charge(ROW, one), mixing_charge(ROW, other))
        self.assertEqual(list(mixing(ROW, mixing_charge(ROW, other))[1]), [("a", "b"), ("c", "d")])

    def test_judged_values_are_left_as_they_were(self):
        weights = {("b", "d"): 3, ("a", "c"): 2}
        self.is_true(is_scale(ROW, (2, weights)))
        self.assertEqual(scale_total(ROW, (2, weights)), (5, 2))
        self.is_false(is_kept_paper(ROW, ("scale", (2, weights))))
        self.assertEqual(list(weights.items()), [(("b", "d"), 3), (("a", "c"), 2)])

    def test_the_order_of_a_dict_has_no_effect(self):
        self.assertEqual(Charge({"a": 1, "b": 2}), Charge({"b": 2, "a": 1}))
        self.assertEqual(str(Charge({"b": 2, "a": 1})), "a 1, b 2")
        for weights in ({("b", "d"): 3, ("a", "c"): 2}, {("a", "c"): 2, ("b", "d"): 3}):
            self.is_true(is_scale(ROW, (2, weights)))

    def test_a_refused_call_changes_nothing(self):
        charge = Charge({"a": 1, "b": 1})
        for call in (lambda: charge + ROW, lambda: charge["x"], lambda: charge.times(1, 0), lambda: charge.cut(()),
                     lambda: charge.put_beside(charge), lambda: charge.mixed(charge, 2, 1), lambda: charge.of(["a"])):
            with self.assertRaises((errors.BillError, errors.InvalidNumber, errors.UnknownName)):
                call()
        self.assertEqual((str(charge), charge.things, charge.unit), ("a 1, b 1", ("a", "b"), 1))


class Judges(Case):
    """Functions that judge a value answer for every value [0.5]."""

    def judges(self, web):
        bill = Charge({thing: 0 for thing in web})
        for judge in (is_group, is_loose, is_knot, is_within, is_bill, is_kept, is_scale, is_parts_paper, is_kept_paper,
                      is_good_paper, is_mixing, is_height_paper, is_floor_paper, is_order, is_shrinking_paper, is_tree,
                      is_plan_paper, is_plan, is_exact_paper, is_wide_paper, is_proposal, is_steady_paper):
            yield lambda value, judge=judge: judge(web, value)
        yield lambda value: is_mixing_of(web, bill, value)
        yield lambda value: is_lift_paper(web, bill, value)
        yield lambda value: is_alike_by(web, web, value)
        yield lambda value: is_colouring(web, (), value)

    def test_values_of_every_kind(self):
        words = ("good", "ring", "turned", "height", "floor", "sides", "bond", "tree", "row", "apart", "exact", "knot",
                 "lift", "pulls", "wide", "low", "one", "free", "over", "kept", "scale", "parts", "steady", "left")
        short = [(word,) for word in words] + [(word, ()) for word in words] + [(word, {}) for word in words]
        short += [(word, None, None) for word in words] + [[word, word] for word in words] + list(words)
        short += [(word, [[]], [[]]) for word in words] + [(word, ({},), ({},)) for word in words]
        for web in (BOND, ROW):
            # The empty group is a group, loose and a knot, and it has a colouring without a part.
            told = [judge(()) for judge in self.judges(web)]
            self.assertEqual([at for at, right in enumerate(told) if right], [0, 1, 2, len(told) - 1])
            for judge in self.judges(web):
                for value in OTHER_KINDS + short:
                    self.is_false(judge(value), value)

    def test_papers_are_found_right(self):
        """Each paper is judged right in its own web, but not in the same one without its conflicts, or with all."""
        for web in [web for web in big_webs() if is_good(web)][::3]:
            other = Web(web.things, ()) if len(web.conflicts) > 0 else ~web
            for call, judge in ((height_paper, is_height_paper), (floor_paper, is_floor_paper),
                                (good_paper, is_good_paper), (shrinking_paper, is_shrinking_paper),
                                (plan_paper, is_plan_paper), (exact_paper, is_exact_paper), (wide_paper, is_wide_paper),
                                (steady_paper, is_steady_paper)):
                self.is_true(judge(web, call(web)))
                self.is_false(judge(other, call(web)))


class Values(Case):
    def test_sequences_are_tuples(self):
        charge = knot_charge(FIVE, ("a", "c", "d"))
        for found in (groups(FIVE), loose_groups(FIVE), full_loose(FIVE), full_knots(FIVE), greatest_knots(FIVE),
                      colouring(FIVE, FIVE.things), objections(FIVE, charge)):
            self.assertIs(type(found), tuple)
            self.assertGreater(len(found), 0)
            self.assertTrue(all(type(group) is tuple for group in found))
            self.assertEqual(list(found), sorted(set(found)))
        for found in (FIVE.things, FIVE.conflicts, FIVE.beside("a"), charge.things, charge["a"], charge.total,
                      charge.of(()), worst(FIVE, charge), worst(FIVE, charge)[0], worst(FIVE, charge)[1]):
            self.assertIs(type(found), tuple)

    def test_equal_calls_return_equal_results(self):
        for web in list(big_webs())[:24]:
            same = Web(web.things[::-1], tuple((other, one) for one, other in web.conflicts[::-1]))
            self.assertEqual(parts_paper(web), parts_paper(same))
            self.assertEqual(kept_paper(web), kept_paper(same))
            self.assertEqual(colouring(web, web.things), colouring(same, same.things))
            self.assertEqual(list(parts_paper(web)[2][1]), list(parts_paper(same)[2][1]))

    def test_plans_are_apart(self):
        before = plan(BOND)
        plan(BOND).clear()
        told = tree_plan(BOND, tree(BOND))
        self.assertEqual((plan(BOND), told), (before, before))
        del told[("a",)]
        self.assertEqual(len(mixed_plan(BOND, before, plan(BOND), 1, 2)), 7)
        self.refuses(errors.InvalidPlan, lambda: mixed_plan(BOND, before, told, 1, 2))
        self.refuses(errors.InvalidPlan, lambda: rises(BOND, told))
        self.assertEqual((len(told), len(before)), (6, 7))

    def test_equal_calls_about_equal_webs(self):
        for web in [web for web in list(big_webs())[::2] if is_good(web)]:
            same = Web(web.things[::-1], tuple((other, one) for one, other in web.conflicts[::-1]))
            bill = kept_bill(web)
            for call in (good_paper, height_paper, floor_paper, fixing_group, kind_order, mean_bill, shrinking_paper,
                         growing, plan_paper, plan, exact_paper, wide_paper, steady_paper, unbeaten, properties, pieces,
                         layers):
                self.assertEqual(call(web), call(same))
            self.assertEqual(mixing(web, bill), mixing(same, bill))
            self.assertEqual(alike_at(web, ()), alike_at(same, ()))
            self.assertEqual(shares(web, bill), shares(same, bill))
            self.assertEqual(list(alike_by(web, same).items()), list(alike_by(same, web).items()))
            self.assertEqual(bill_with(web, web.things[:1], *kept_bill(web)[web.things[0]]),
                             bill_with(same, web.things[:1], *kept_bill(web)[web.things[0]]))

    def test_kinds_of_results(self):
        for found in (pay_range(BOND, ("a",)), never_pay(BOND), always_pay(BOND), fixing_group(ROW), kind_bills(ROW),
                      payers(ROW, ROW.things), kind_order(ROW), order_paying(ROW, ("a", "b")), knot_in(ROW, ROW.things),
                      spoiled_group(FIVE), least_height(ROW), greatest_floor(ROW)):
            self.assertIs(type(found), tuple)
        for found in (freedom(ROW), count_kind(ROW), count_paying(ROW, ()), *pay_range(BOND, ("a",)),
                      *least_height(ROW)):
            self.assertIs(type(found), int)
        for found in (mean_bill(ROW), equal_bill(ROW), order_bill(ROW, ROW.things), *alike_at(ROW, ())):
            self.assertIs(type(found), Charge)
        for pair in (mixing(ROW, kept_bill(ROW)), height_paper(ROW)[2], floor_paper(ROW)[2]):
            self.assertEqual((type(pair), type(pair[0]), type(pair[1])), (tuple, int, dict))
            self.assertEqual(sum(pair[1].values()), pair[0])

    def test_no_other_iteration(self):
        for value in (errors.InvalidNumber((1, 2)), errors.UnknownName("ab"), errors.Spoiled(("a",)),
                      errors.ParseError(1), errors.BillError("x"), Shell(BOND), Room(BOND).trial()):
            with self.assertRaises(TypeError):
                iter(value)

    def test_true_is_not_1(self):
        self.is_false(is_scale(Web(("a",), ()), (True, {("a",): 1})))
        self.is_false(is_scale(Web(("a",), ()), (1, {("a",): True})))
        self.is_true(is_scale(Web(("a",), ()), (1, {("a",): 1})))
        self.refuses(errors.InvalidNumber, lambda: round_web(("a", "b"), True), True)
        self.refuses(errors.InvalidNumber, lambda: Charge({"a": 1}, unit=True), True)
        self.refuses(errors.InvalidCharge, lambda: Charge({"a": True}))

    def test_webs_of_long_names(self):
        web = row_web(("zzzzzzzz", "a", "aaaaaaaa"))
        self.assertEqual(str(web), "web of a aaaaaaaa zzzzzzzz: a-aaaaaaaa a-zzzzzzzz")
        self.is_true(is_kept(web, kept_bill(web)))


if __name__ == "__main__":
    unittest.main()
