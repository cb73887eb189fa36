"""What the document promises over the whole program: [0.5] [0.6] and the main statements [0.12] to [0.19]."""

import random
import unittest
from fractions import Fraction
from itertools import permutations, product
from math import factorial

from huebill.bills.charges import Charge, knot_charge
from huebill.bills.even import (
    floor_paper, greatest_floor, height_paper, is_floor_paper, is_height_paper, least_height,
)
from huebill.bills.exact import (
    exact_paper, is_exact, is_exact_paper, is_lift_paper, is_wide, is_wide_paper, lift, lift_paper, paying_bill,
    wide_paper,
)
from huebill.bills.exists import (
    has_kept, is_kept_paper, is_parts_paper, is_scale, kept_bill, kept_paper, parts_number, parts_paper,
)
from huebill.bills.kept import is_kept, is_within, objections
from huebill.bills.mixtures import alike_at, bill_with, is_fixing, is_mixing, is_mixing_of, mixing, pay_range
from huebill.bills.shared import layer_bills, piece_bills, put_over, put_together
from huebill.bills.steady import (
    beating, does_beat, is_beaten, is_proposal, is_steady, is_steady_paper, steady_paper, unbeaten,
)
from huebill.errors import InvalidOperation
from huebill.orders.orders import count_kind, is_kind, is_order, kind_order, kind_orders, order_paying, payers
from huebill.orders.shrinking import cost, growing, is_shrinking, is_shrinking_paper, shrinking_paper, sides
from huebill.plans.plans import (
    has_plan, is_plan, is_plan_paper, is_tree, mixed_plan, plan, plan_paper, rises, tree, tree_plan,
)
from huebill.room.room import HOLD_WORDS, Room, is_along, is_hold
from huebill.small.small import PROPERTIES, alike_by, is_alike_by, properties
from huebill.text.formats import read_value, read_web, write_value, write_web
from huebill.text.rooms import read_room, write_room
from huebill.text.shell import Shell
from huebill.webs.colours import (
    colouring, colours, greatest_knots, groups, is_colouring, is_enough, is_group, is_knot, is_loose, loose_groups,
)
from huebill.webs.good import good_paper, is_good, is_good_paper, spoiled_group
from huebill.webs.joined import laid_beside, laid_over, layers, pieces
from huebill.webs.webs import Web, round_web, row_web
from tests.helper import (
    BOND, BRIDGE, DOT, EIGHT, EMPTY_EIGHT, FIVE, LETTERS, LONG, LONGEST, OTHER_KINDS, ROW, Case, all_webs, big_webs,
    longest, mix, some_charges, some_mixings, some_webs, small_webs, subsets,
)

# Papers that each web has, and those of good webs alone, each with what judges them and the words of their forms.
ALL = (
    (kept_paper, is_kept_paper, ("kept", "scale")), (parts_paper, is_parts_paper, ("parts",)),
    (good_paper, is_good_paper, ("good", "ring", "turned")), (shrinking_paper, is_shrinking_paper, ("sides", "bond")),
    (plan_paper, is_plan_paper, ("tree", "row", "apart")),
    (exact_paper, is_exact_paper, ("exact", "knot", "ring", "turned")),
)
OF_GOOD = (
    (height_paper, is_height_paper, ("height",)), (floor_paper, is_floor_paper, ("floor",)),
    (wide_paper, is_wide_paper, ("wide", "low")), (steady_paper, is_steady_paper, ("steady", "left")),
)
# The words of papers that say yes, and what says so, too.
YES = {
    "kept": has_kept, "good": is_good, "sides": is_shrinking, "tree": has_plan, "exact": is_exact, "wide": is_wide,
    "steady": is_steady,
}
WEBS = list(small_webs(4)) + list(all_webs(5))[::17] + list(some_webs(6, 15, 201)) + list(big_webs())[::2]


def papers(web):
    """What tells a paper of this web, what judges it, and the words of its forms."""
    return ALL + OF_GOOD if is_good(web) else ALL


def some_of(values, seed, many):
    values = list(values)
    return random.Random(seed).sample(values, min(many, len(values)))


class Papers(Case):
    def test_what_is_told_is_a_paper_for_what_judges_it(self):
        words = set()
        for web in WEBS:
            for call, judge, forms in papers(web):
                paper = call(web)
                self.assertEqual((type(paper), paper[0] in forms), (tuple, True))
                self.is_true(judge(web, paper))
                self.assertLessEqual(longest(paper), 20)
                self.assertEqual(call(web), paper)
                words.add(paper[0])
                if paper[0] in YES or len(forms) > 1:
                    self.assertEqual(paper[0] in YES, YES[forms[0]](web))
        self.assertEqual(words, {word for _, _, forms in ALL + OF_GOOD for word in forms})

    def test_papers_of_other_functions_are_none(self):
        for web in WEBS[::3]:
            for call, judge, forms in papers(web):
                for other, _, told in papers(web):
                    paper = other(web)
                    right = paper[0] in forms and paper[0] in ("ring", "turned")
                    self.assertIs(judge(web, paper), right or call == other, (forms, told))

    def test_a_paper_is_one_in_a_web_that_is_alike(self):
        luck = random.Random(202)
        for web in WEBS[::6]:
            names = luck.sample(tuple("lmnopqrstuvwxyz"), len(web))
            other = web.renamed(dict(zip(web.things, names)))
            self.assertIsNotNone(alike_by(web, other))
            for call, judge, forms in papers(web):
                self.is_true(judge(other, call(other)))
                self.assertEqual(call(other)[0] in YES, call(web)[0] in YES)
                self.is_false(judge(other, call(web)))

    def test_what_else_is_told(self):
        """Whatever other results can be judged are right ones [0.6]."""
        for web in WEBS[::2]:
            self.is_true(is_scale(web, parts_paper(web)[2]))
            for group in some_of(groups(web), 1, 6):
                self.assertEqual((is_group(web, group), is_colouring(web, group, colouring(web, group))), (True, True))
                order = order_paying(web, group)
                if order is not None:
                    self.assertEqual((is_order(web, order), payers(web, order)), (True, group))
            if has_plan(web):
                found = tree(web)
                self.is_true(is_tree(web, found))
                self.is_true(is_plan(web, tree_plan(web, found)))
                self.is_true(is_plan(web, mixed_plan(web, plan(web), tree_plan(web, found), 1, 3)))
                self.assertEqual(rises(web, plan(web)), ())
                self.is_true(is_along(Room(web), Room(web).along()))
            if kind_order(web) is not None:
                self.is_true(is_kind(web, kind_order(web)))
            if growing(web) is not None:
                thing, group, greater = growing(web)
                self.assertGreater(cost(web, greater, thing), cost(web, group, thing))
            other = web.renamed({web.things[0]: "zz"})
            self.is_true(is_alike_by(web, other, alike_by(web, other)))

    def test_what_is_told_of_charges(self):
        for web in [web for web in WEBS if is_good(web)][::2]:
            for _, parts in some_mixings(web, 2, 203):
                bill = mix(web, {knot: share * (LONGEST // 10 ** 3) + 1 for knot, share in parts.items()})
                found = mixing(web, bill)
                self.assertEqual((is_mixing(web, found), is_mixing_of(web, bill, found)), (True, True))
                tiny = Charge({thing: (at == 0) - (at == 1) for at, thing in enumerate(web)}).times(1, LONGEST)
                for charge in (bill, bill + tiny, bill.times(LONGEST - 1, LONGEST), bill.times(-1)):
                    paper = lift_paper(web, charge)
                    self.is_true(is_lift_paper(web, charge, paper))
                    self.assertLessEqual(longest(paper), longest(charge) + 20)
                    if is_proposal(web, charge) and is_beaten(web, charge):
                        other, group = beating(web, charge)
                        self.is_true(does_beat(web, other, charge, group))
                        self.assertLessEqual(longest(other), longest(charge) + 20)
                self.assertLessEqual(longest(found), longest(bill) + 20)
                self.assertEqual(put_together(web, {piece: (1, part) for piece, part in piece_bills(
                    web, bill).items()}).things, web.things)
                self.assertEqual(put_over(web, layer_bills(web, bill)), bill)
            for group in some_of(groups(web), 204, 4):
                least, most = pay_range(web, group)
                told = bill_with(web, group, least * (LONGEST // 9) + (most - least), LONGEST // 9)
                self.is_true(is_kept(web, told))
                self.assertLessEqual(longest(told), 80)
                pair = alike_at(web, group)
                self.assertIs(is_fixing(web, group), pair is None)
                if pair is not None:
                    self.assertEqual([is_kept(web, one) for one in pair], [True, True])
                    self.assertNotEqual(*pair)
                    self.assertEqual(pair[0].of(group), pair[1].of(group))

    def test_judges_answer_for_every_value(self):
        room, good = Room(BOND), [judge for _, judge, _ in ALL + OF_GOOD]
        values = OTHER_KINDS + [Shell(BOND), room, room.trial(), BOND, (room,), {"a": room}, [BOND], ("good", room)]
        for value in values:
            for judge in good + [is_scale, is_mixing, is_tree, is_plan, is_order, is_within, is_kept, is_proposal]:
                self.is_false(judge(BOND, value), value)
            self.is_false(is_along(room, value))
            self.is_false(is_alike_by(BOND, BOND, value))
            self.assertIs(is_hold(value), value == "kept")


class MainStatements(Case):
    def test_charges_within_and_kept_bills(self):
        for web in WEBS[::2]:
            for charge in some_charges(web, 5, 205):
                loose = all(charge.of(group)[0] <= charge.of(group)[1] for group in loose_groups(web))
                every = all(charge.of(group)[0] <= colours(web, group) * charge.of(group)[1] for group in groups(web))
                self.assertEqual([is_within(web, charge), objections(web, charge) == ()], [loose, loose])
                self.assertEqual(every, loose)
                if is_kept(web, charge):
                    self.assertTrue(all(0 <= charge[thing][0] <= charge[thing][1] for thing in web))
            self.assertEqual(has_kept(web), parts_number(web) == (colours(web), 1))

    def test_good_webs(self):
        """A web is good exactly if its parts have kept bills, and if none is a ring, or a turned one [0.14]."""
        rings = [round_web(LETTERS[:5], 1), round_web(LETTERS[:7], 1), ~round_web(LETTERS[:7], 1)]
        for web in WEBS:
            parts = [web.part(group) for group in groups(web)[1:]] if len(web) < 8 else [web.part(group) for group in some_of(
                groups(web)[1:], 206, 60)] + [web.part(spoiled_group(web) or web.things)]
            self.assertEqual(is_good(web), all(has_kept(part) for part in parts), str(web))
            self.assertEqual(is_good(web), not any(alike_by(part, ring) for part in parts for ring in rings))
            self.assertEqual(is_good(web), is_good(~web))

    def test_bills_that_are_kept_in_whole_numbers(self):
        for web in WEBS[::2]:
            right = set(greatest_knots(web)) if is_enough(web) else set()
            found = {group for group in groups(web) if is_kept(web, knot_charge(web, group))}
            self.assertEqual(found, right)
        for web in list(small_webs(3)) + [ROW]:
            for told in product((-1, 0, 1, 2), repeat=len(web)):
                charge = Charge(dict(zip(web.things, told)))
                knot = tuple(thing for thing in web if charge.pays[thing] == 1)
                right = set(told) <= {0, 1} and is_knot(web, knot) and len(knot) == colours(web)
                self.assertIs(is_kept(web, charge), right)

    def test_orders(self):
        for web in [web for web in WEBS if len(web) < 6][::2]:
            kind = [order for order in permutations(web.things) if is_kind(web, order)]
            self.assertEqual(list(kind_orders(web)), kind)
            self.assertEqual((len(kind) > 0, len(kind)), (is_enough(web), count_kind(web)))
            for order in some_of(permutations(web.things), 207, 5):
                self.assertIs(is_kind(web, order), is_knot(web, payers(web, order)))
            self.assertEqual(is_shrinking(web), len(kind) == factorial(len(web)))

    def test_shrinking_webs_and_plans(self):
        for web in WEBS:
            threes = [len(web.part(three).conflicts) for three in groups(web) if len(three) == 3]
            self.assertEqual(is_shrinking(web), 1 not in threes)
            self.assertEqual(is_shrinking(web), all(is_loose(web, layer) for layer in layers(web)))
            self.assertEqual(sides(web), layers(web) if is_shrinking(web) else None)
            bad = (row_web(tuple("wxyz")), Web(tuple("wxyz"), (("w", "x"), ("y", "z"))))
            fours = [web.part(four) for four in groups(web) if len(four) == 4]
            self.assertEqual(has_plan(web), not any(alike_by(four, one) for four in fours for one in bad))

    def test_exact_wide_and_steady_webs(self):
        for web in [web for web in WEBS if is_good(web)]:
            paid = all(paying_bill(web, group) is not None for group in groups(web))
            self.assertEqual([is_exact(web), is_wide(web)], [paid, paid])
            held = {thing for knot in greatest_knots(web) for thing in knot}
            self.assertEqual(is_steady(web), len(held) == len(web))
            self.assertEqual(greatest_floor(web) == (0, 1), not is_steady(web))
            self.assertEqual(unbeaten(web) is None, is_steady(web))
            self.assertLessEqual(Fraction(*greatest_floor(web)), Fraction(*least_height(web)))
            if not is_wide(web):
                low = wide_paper(web)[1]
                self.assertEqual((is_within(web, low), lift(web, low)), (True, None))

    def test_what_follows_from_what(self):
        for web in WEBS + [EIGHT, BRIDGE, EMPTY_EIGHT]:
            has = dict.fromkeys(PROPERTIES, False) | dict.fromkeys(properties(web), True)
            for one, other in (("shrinking", "planned"), ("shrinking", "exact"), ("planned", "good"), ("exact", "good"),
                               ("exact", "steady"), ("steady", "good"), ("good", "enough"), ("enough", "kept")):
                self.assertLessEqual(has[one], has[other], (one, other))
            self.assertEqual(has["shrinking"], has["planned"] and has["steady"])
            room = Room(web)
            true = [label for label in HOLD_WORDS if attempt(room, label)]
            self.assertEqual(tuple(true), properties(web))

    def test_webs_fall_into_pieces_and_layers(self):
        for web in WEBS[::3]:
            for groups_of, lay in ((pieces, laid_beside), (layers, laid_over)):
                first, *rest = [web.part(group) for group in groups_of(web)]
                for other in rest:
                    first = lay(first, other)
                self.assertEqual(first, web)


def attempt(room, label):
    """Whether a hold is true of a room now."""
    try:
        room.hold("x", label)
    except ArithmeticError:
        return False
    room.release("x")
    return True


class Long(Case):
    """Integers that are passed have at most sixty digits; longer ones in objects, and judged ones, are fine [0.1]."""

    def test_objects_with_longer_integers(self):
        bill = mix(ROW, {("a", "b"): LONGEST // 3, ("b", "c"): LONGEST // 3 - 1}).mixed(kept_bill(ROW), LONGEST - 4, LONGEST)
        self.assertGreater(longest(bill), 100)
        self.is_true(is_kept(ROW, bill))
        self.is_true(is_along(Room(Web(("a", "b"), (("a", "b"),))), (Charge({"a": 1}), Charge({"a": 1, "b": 1}))))
        self.assertEqual(put_over(ROW, {ROW.things: bill}), bill)
        self.is_false(is_beaten(ROW, bill))
        self.refuses(InvalidOperation, lambda: write_value(("kept", bill)))
        self.is_true(is_kept_paper(ROW, ("kept", bill)))
        self.is_true(is_scale(ROW, (LONG ** 3, {("a", "c"): LONG ** 3, ("b", "d"): LONG ** 3})))

    def test_texts_of_all_webs(self):
        for web in WEBS:
            self.assertEqual(read_web(write_web(web)), web)
            self.assertEqual(read_room(write_room(Room(web))), Room(web))
            for call, _, _ in papers(web):
                self.assertEqual(read_value(write_value(call(web))), call(web))

    def test_no_sharing(self):
        for web in (BOND, FIVE, BRIDGE, DOT):
            for call, _, _ in papers(web):
                before = write_value(call(web))
                for part in call(web):
                    for told in (part if isinstance(part, tuple) else (part,)):
                        if isinstance(told, dict):
                            told.clear()
                self.assertEqual(write_value(call(web)), before)


if __name__ == "__main__":
    unittest.main()
