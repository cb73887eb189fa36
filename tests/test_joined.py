"""Stage 15: webs beside and over one another, and the bills of pieces and layers [15.1] [15.2] [15.3]."""

import random
import unittest
from fractions import Fraction
from itertools import combinations, product

from huebill.bills.charges import Charge, knot_charge
from huebill.bills.exact import is_exact
from huebill.bills.exists import has_kept, kept_bill
from huebill.bills.kept import is_kept
from huebill.bills.shared import layer_bills, piece_bills, put_over, put_together, shares
from huebill.bills.steady import is_steady
from huebill.errors import InvalidCharge, InvalidOperation, InvalidWeb, TooMany
from huebill.orders.shrinking import is_shrinking, sides
from huebill.plans.plans import has_plan
from huebill.webs.colours import colours, is_enough
from huebill.webs.good import is_good
from huebill.webs.joined import laid_beside, laid_over, layers, pieces
from huebill.webs.webs import Web, row_web
from tests.helper import (
    BOND, BRIDGE, DOT, EIGHT, EMPTY_EIGHT, FIVE, LONG, LONGEST, OTHER_KINDS, RINGS, ROW, Case, all_webs, charge_of, mix,
    more_webs, near_tuples, pair_of, plain_colours, plain_kept, plain_parts_of, plain_spoiled, shares_of, sided_web,
    small_webs, some_charges, some_mixings, some_webs, subsets,
)

PAIRS = Web(tuple("abcd"), (("a", "b"), ("c", "d")))
BOTH = {("a", "b"): (1, Charge({"a": 1, "b": 1})), ("c", "d"): (3, Charge({"c": 1, "d": 1}))}
FAIR = Charge({"a": 0, "b": 1, "c": 1})
TRIPLES = Web(tuple("abcdefg"), tuple(combinations("abc", 2)) + tuple(combinations("def", 2)))


def plain_pieces(web):
    """The pieces, by joining groups as long as some conflict leads from one to another one."""
    found = [{thing} for thing in web.things]
    for one, other in web.conflicts:
        first = next(piece for piece in found if one in piece)
        second = next(piece for piece in found if other in piece)
        if first is not second:
            found.remove(second)
            first |= second
    return tuple(sorted(tuple(sorted(piece)) for piece in found))


def renamed_apart(web, letters):
    return web.renamed(dict(zip(web.things, letters)))


def pairs_of_webs(seed):
    """Pairs of webs without a common thing, with at most eight things together."""
    small = [web for many in (1, 2, 3) for web in all_webs(many)]
    for one, other in product(small[::2], small):
        yield one, renamed_apart(other, "stuvwxyz")
    luck = random.Random(seed)
    for one in some_webs(4, 25, seed):
        yield one, renamed_apart(next(some_webs(luck.randint(1, 4), 1, luck.randint(1, 999))), "stuvwxyz")
    for one in (FIVE, BRIDGE, ROW, RINGS[1], EIGHT.without("a", "b"), RINGS[4]):
        for other in (DOT, Web(("y", "z"), ()), Web(("y", "z"), (("y", "z"),)), Web(tuple("xyz"), (("x", "y"),)),
                      row_web(tuple("xyz")), ~Web(tuple("xyz"), ())):
            if len(one) + len(other) <= 8:
                yield one, other
                yield other, one


def webs_with_bills():
    """Webs with kept bills, each with some of these."""
    for web in list(small_webs(4)) + list(some_webs(5, 20, 3)) + list(some_webs(7, 10, 4)) + [TRIPLES, BRIDGE]:
        if plain_spoiled(web) is None:
            yield web, [mix(web, told) for _, told in some_mixings(web, 3, 5)]
    yield EIGHT, [kept_bill(EIGHT)]
    web = laid_beside(FIVE, Web(tuple("xyz"), (("x", "y"), ("x", "z"), ("y", "z"))))
    yield web, [kept_bill(web)]
    yield laid_over(BOND, ROW.renamed(dict(zip("abcd", "wxyz")))), [put_over(
        laid_over(BOND, ROW.renamed(dict(zip("abcd", "wxyz")))),
        {tuple("abc"): FAIR, tuple("wxyz"): Charge({"w": 1, "x": 2, "y": 1, "z": 0}, unit=2)})]


class Laid(Case):
    def test_things_and_conflicts(self):
        for one, other in pairs_of_webs(1):
            over = {tuple(sorted((low, high))) for low in one for high in other}
            for found, between in ((laid_beside(one, other), set()), (laid_over(one, other), over)):
                self.assertIs(type(found), Web)
                self.assertEqual(found.things, tuple(sorted(one.things + other.things)))
                self.assertEqual(set(found.conflicts), set(one.conflicts) | set(other.conflicts) | between)
            self.assertEqual(laid_beside(one, other), laid_beside(other, one))
            self.assertEqual(laid_over(one, other), laid_over(other, one))
            self.assertEqual(laid_over(one, other), ~laid_beside(~one, ~other))
            self.assertEqual(laid_over(one, other).part(one.things), one)
            self.assertEqual(laid_beside(one, other).part(other.things), other)

    def test_colours(self):
        for one, other in pairs_of_webs(2):
            many = colours(one), colours(other)
            self.assertEqual(colours(laid_over(one, other)), sum(many))
            self.assertEqual(colours(laid_beside(one, other)), max(many))

    def test_webs_over_one_another(self):
        """The whole has a property exactly if both have it [15.3]."""
        for one, other in pairs_of_webs(3):
            whole = laid_over(one, other)
            for judge in (is_enough, is_good, is_shrinking, is_exact, has_kept, has_plan, good_and_steady):
                self.assertIs(judge(whole), judge(one) and judge(other), (judge, str(one), str(other)))

    def test_webs_beside_one_another(self):
        seen = set()
        for one, other in pairs_of_webs(4):
            whole = laid_beside(one, other)
            many = colours(whole)
            great = [web for web in (one, other) if colours(web) == many]
            alike = colours(one) == colours(other)
            bare = [web for web in (one, other) if len(web.conflicts) == 0]
            rules = {
                is_good: is_good(one) and is_good(other),
                is_enough: any(is_enough(web) for web in great),
                has_kept: any(has_kept(web) for web in great),
                has_plan: has_plan(one) and has_plan(other) and len(bare) > 0,
                is_shrinking: len(bare) == 2,
                is_exact: is_exact(one) and is_exact(other) and alike,
                good_and_steady: good_and_steady(one) and good_and_steady(other) and alike,
            }
            for judge, right in rules.items():
                self.assertIs(judge(whole), right, (judge, str(one), str(other)))
                seen.add((judge, right))
        self.assertEqual(len(seen), 14)

    def test_refusals_in_their_order(self):
        for call in (laid_beside, laid_over):
            for value in [value for value in OTHER_KINDS if not isinstance(value, Web)] + [BOND.things]:
                self.refuses(InvalidWeb, lambda: call(value, BOND))
                self.refuses(InvalidWeb, lambda: call(BOND, value))
                self.refuses(InvalidWeb, lambda: call(value, value))
            self.refuses(InvalidOperation, lambda: call(BOND, ROW))
            self.refuses(InvalidOperation, lambda: call(BOND, BOND))
            self.refuses(InvalidOperation, lambda: call(EMPTY_EIGHT, ROW))
            self.refuses(InvalidOperation, lambda: call(EMPTY_EIGHT, EMPTY_EIGHT.renamed(dict(zip("abcdefg", "stuvwxy")))))
            self.refuses(TooMany, lambda: call(EMPTY_EIGHT, DOT), 8)
            self.refuses(TooMany, lambda: call(DOT, EIGHT), 8)
            self.refuses(TooMany, lambda: call(FIVE, ROW.renamed(dict(zip("abcd", "wxyz")))), 8)
            self.assertEqual(len(call(RINGS[4], DOT)), 8)
        self.assertEqual(str(BOND), "web of a b c: b-c")


def good_and_steady(web):
    return is_good(web) and is_steady(web)


class Pieces(Case):
    def test_pieces_and_layers(self):
        several = [0, 0]
        for web in list(more_webs()) + [TRIPLES, PAIRS, ~TRIPLES]:
            self.assertEqual(pieces(web), plain_pieces(web))
            self.assertEqual(layers(web), plain_pieces(~web))
            if len(pieces(web)) > 1:
                self.assertEqual(layers(web), (web.things,))
            several[0] += len(pieces(web)) > 1
            several[1] += len(layers(web)) > 1
        self.assertGreater(min(several), 20)

    def test_known_ones(self):
        self.assertEqual(pieces(TRIPLES), (tuple("abc"), tuple("def"), ("g",)))
        self.assertEqual(layers(~TRIPLES), (tuple("abc"), tuple("def"), ("g",)))
        self.assertEqual(pieces(EMPTY_EIGHT), tuple((thing,) for thing in "abcdefgh"))
        self.assertEqual((layers(EMPTY_EIGHT), pieces(DOT), layers(DOT)), ((EMPTY_EIGHT.things,), (("x",),), (("x",),)))
        mixed = Web(tuple("abcd"), (("a", "d"), ("b", "c")))
        self.assertEqual(pieces(mixed), (("a", "d"), ("b", "c")))

    def test_laid_webs_fall_into_their_parts(self):
        for one, other in pairs_of_webs(5):
            self.assertEqual(pieces(laid_beside(one, other)), tuple(sorted(pieces(one) + pieces(other))))
            self.assertEqual(layers(laid_over(one, other)), tuple(sorted(layers(one) + layers(other))))

    def test_layers_of_shrinking_webs_are_sides(self):
        for web in (sided_web(2, 1, 2), sided_web(3, 3), ~EMPTY_EIGHT):
            self.assertEqual(layers(web), sides(web))

    def test_no_web(self):
        for value in [value for value in OTHER_KINDS if not isinstance(value, Web)] + [BOND.things]:
            self.refuses(InvalidWeb, lambda: pieces(value))
            self.refuses(InvalidWeb, lambda: layers(value))


class Shares(Case):
    def test_shares_and_bills_of_pieces(self):
        several = 0
        for web, bills in webs_with_bills():
            many = plain_colours(web, web.things)
            for bill in bills:
                paid = shares_of(bill)
                found, parts = shares(web, bill), piece_bills(web, bill)
                right = {piece: sum(paid[thing] for thing in piece) / many for piece in plain_pieces(web)}
                self.assertEqual(list(found.items()), [(piece, pair_of(share)) for piece, share in right.items()])
                self.assertEqual(sum(Fraction(*share) for share in found.values()), 1)
                self.assertEqual(list(parts), [piece for piece in right if right[piece] > 0])
                for piece, part in parts.items():
                    self.assertEqual(shares_of(part), {thing: paid[thing] / right[piece] for thing in piece})
                    self.assertTrue(plain_kept(plain_parts_of(web, piece), part))
                    self.assertEqual(plain_colours(web, piece), many)
                for piece in right:
                    if plain_colours(web, piece) < many:
                        self.assertEqual(found[piece], (0, 1))
                several += len(parts) > 1
        self.assertGreater(several, 10)

    def test_bills_of_layers(self):
        several = 0
        for web, bills in webs_with_bills():
            for bill in bills:
                found = layer_bills(web, bill)
                self.assertEqual(list(found), list(plain_pieces(~web)))
                for layer, part in found.items():
                    self.assertEqual(part, bill.cut(layer))
                    self.assertTrue(plain_kept(plain_parts_of(web, layer), part))
                self.assertEqual(put_over(web, found), bill)
                several += len(found) > 1
        self.assertGreater(several, 10)

    def test_a_bill_is_kept_exactly_if_its_cuts_are(self):
        seen = set()
        for web in (sided_web(2, 2), laid_over(BOND, DOT), ~PAIRS, ~TRIPLES, laid_over(ROW, DOT), sided_web(2, 1)):
            for charge in list(some_charges(web, 40, 6)) + [mix(web, told) for _, told in some_mixings(web, 3, 7)]:
                parts = all(is_kept(web.part(layer), charge.cut(layer)) for layer in layers(web))
                self.assertIs(is_kept(web, charge), parts)
                seen.add(parts)
        self.assertEqual(len(seen), 2)

    def test_taken_apart_and_put_together(self):
        for web, bills in webs_with_bills():
            for bill in bills:
                parts, told = piece_bills(web, bill), shares(web, bill)
                unit = bill.unit * colours(web)
                whole = {piece: (told[piece][0] * unit // told[piece][1], parts[piece]) for piece in parts}
                self.assertEqual(put_together(web, whole), bill)

    def test_refusals_in_their_order(self):
        for call in (shares, piece_bills, layer_bills):
            for value in [value for value in OTHER_KINDS if not isinstance(value, Web)] + [BOND.things]:
                self.refuses(InvalidWeb, lambda: call(value, None))
            for value in OTHER_KINDS + [FAIR.pays, FAIR.cut(("a",)), (FAIR,), str(FAIR), BOND]:
                self.refuses(InvalidCharge, lambda: call(BOND, value))
                self.refuses(InvalidCharge, lambda: call(FIVE, value))
            tiny = Charge({"a": 1, "b": -1, "c": 0}).times(1, LONGEST)
            for charge in (FAIR.times(2), FAIR.times(0), FAIR + tiny, FAIR - tiny, Charge({"a": 1, "b": 1, "c": 0})):
                self.refuses(InvalidOperation, lambda: call(BOND, charge))
            self.refuses(InvalidOperation, lambda: call(FIVE, Charge({thing: 3 for thing in FIVE}, unit=5)))

    def test_results_are_apart(self):
        for call in (shares, piece_bills, layer_bills):
            before = call(BOND, FAIR)
            call(BOND, FAIR).clear()
            self.assertEqual(call(BOND, FAIR), before)


class PutTogether(Case):
    def webs(self):
        """Webs with their pieces that have all colours, and kept bills of these."""
        for one in (BOND, ROW, PAIRS, TRIPLES, Web(tuple("abcd"), ()), EMPTY_EIGHT, BRIDGE,
                    laid_beside(ROW, Web(tuple("xyz"), (("x", "y"),))), laid_beside(FIVE, ~Web(tuple("xyz"), ()))):
            many = plain_colours(one, one.things)
            bills = {}
            for piece in plain_pieces(one):
                part = plain_parts_of(one, piece)
                if plain_colours(one, piece) == many and has_kept(part):
                    bills[piece] = [mix(part, told) for _, told in some_mixings(part, 3, 8)] + [kept_bill(part)]
            yield one, bills

    def test_any_shares(self):
        luck = random.Random(9)
        for web, bills in self.webs():
            for _ in range(6):
                chosen = luck.sample(sorted(bills), luck.randint(1, len(bills)))
                told = {piece: (luck.choice((1, 2, 3, 7, LONGEST)), luck.choice(bills[piece])) for piece in chosen}
                found = put_together(web, told)
                whole = sum(part for part, _ in told.values())
                right = {thing: Fraction(0) for thing in web}
                for part, bill in told.values():
                    for thing, paid in shares_of(bill).items():
                        right[thing] = paid * part / whole
                self.assertEqual(shares_of(found), right)
                self.assertTrue(plain_kept(web, found))
                self.is_true(is_kept(web, found))
                self.assertEqual(put_together(web, dict(list(told.items())[::-1])), found)

    def test_near_dicts(self):
        other = Charge({"a": 1, "b": 1})
        right = {("a", "b"): (2, other)}
        self.assertEqual(str(put_together(PAIRS, right)), "a 1, b 1, c 0, d 0")
        wrong = [{}, list(BOTH.items()), tuple(BOTH.items()), (BOTH,), {**BOTH, ("a", "c"): (1, other)},
                 {**BOTH, (): (1, other)}, {("b", "a"): (1, other)}, {"a": (1, other)}, {("a",): (1, other.cut(("a",)))},
                 {("a", "b", "c", "d"): (1, kept_bill(PAIRS))}, {None: (1, other)}, {**BOTH, 1: None}]
        for many in (0, -1, LONG, 10 ** 99, True, None, "1", (1,), [1], (1, 1), {}, -LONG):
            wrong.append({("a", "b"): (many, other)})
            wrong.append({**BOTH, ("c", "d"): (many, Charge({"c": 1, "d": 1}))})
        for bill in (None, other.pays, str(other), Charge({"a": 1, "b": 1, "c": 0, "d": 0}), Charge({"a": 1}), (other,),
                     Charge({"a": 1, "b": 0}), Charge({"a": 3, "b": 1}, unit=2), Charge({"c": 1, "d": 1}), True,
                     Charge({"a": LONGEST, "b": LONGEST - 1}, unit=LONGEST)):
            wrong.append({("a", "b"): (1, bill)})
        for pair in (None, (), (1,), (1, other, other), [1, other], (other, 1), {1: other}, other, 1):
            wrong.append({("a", "b"): pair})
        for value in wrong + OTHER_KINDS:
            self.refuses(InvalidOperation, lambda: put_together(PAIRS, value))
        self.assertEqual(put_together(PAIRS, {("a", "b"): (LONGEST, other)}), put_together(PAIRS, right))

    def test_pieces_with_fewer_colours(self):
        self.refuses(InvalidOperation, lambda: put_together(BOND, {("a",): (1, Charge({"a": 1}))}))
        told = {("b", "c"): (5, Charge({"b": 1, "c": 1}))}
        self.assertEqual(put_together(BOND, told), FAIR)
        self.refuses(InvalidOperation, lambda: put_together(BOND, {**told, ("a",): (1, Charge({"a": 1}))}))
        self.refuses(InvalidOperation, lambda: put_together(TRIPLES, {("g",): (1, Charge({"g": 1}))}))

    def test_pieces_without_kept_bills(self):
        web = laid_beside(FIVE, ~Web(tuple("xyz"), ()))
        top = Charge({"x": 1, "y": 1, "z": 1})
        for bill in (Charge({thing: 3 for thing in FIVE}, unit=5), Charge({thing: 1 for thing in FIVE}, unit=2)):
            self.refuses(InvalidOperation, lambda: put_together(web, {FIVE.things: (1, bill), tuple("xyz"): (1, top)}))
        self.assertEqual(put_together(web, {tuple("xyz"): (9, top)}), kept_bill(web))
        self.refuses(InvalidOperation, lambda: put_together(FIVE, {FIVE.things: (1, kept_bill(ROW))}))

    def test_no_web(self):
        for value in [value for value in OTHER_KINDS if not isinstance(value, Web)] + [BOND.things]:
            for bills in (BOTH, {}, None, BOND):
                self.refuses(InvalidWeb, lambda: put_together(value, bills))
                self.refuses(InvalidWeb, lambda: put_over(value, bills))

    def test_dicts_are_left_as_they_were(self):
        told = dict(list(BOTH.items())[::-1])
        put_together(PAIRS, told)
        self.assertEqual(list(told.items()), list(BOTH.items())[::-1])


class PutOver(Case):
    def test_any_bills_of_layers(self):
        luck = random.Random(10)
        for web in (~PAIRS, ~TRIPLES, sided_web(3, 3, 2), laid_over(BOND, DOT), laid_over(ROW, BOND.renamed(
                {"a": "x", "b": "y", "c": "z"})), laid_over(DOT, EIGHT.without("h")), BOND, ROW, DOT):
            found = plain_pieces(~web)
            if not has_kept(web):
                self.assertFalse(all(has_kept(web.part(layer)) for layer in found))
                continue
            for seed in range(4):
                told = {layer: luck.choice([mix(web.part(layer), one) for _, one in some_mixings(
                    web.part(layer), 3, seed)]) for layer in luck.sample(found, len(found))}
                charge = put_over(web, told)
                right = {thing: paid for bill in told.values() for thing, paid in shares_of(bill).items()}
                self.assertEqual(shares_of(charge), dict(sorted(right.items())))
                self.assertTrue(plain_kept(web, charge))
                self.assertEqual(layer_bills(web, charge), told)
        eight = laid_over(RINGS[2], Web(tuple("xyz"), ()))
        self.refuses(InvalidOperation, lambda: put_over(eight, {tuple("abcde"): charge_of(
            {thing: Fraction(3, 5) for thing in "abcde"}), tuple("xyz"): Charge({"x": 1, "y": 0, "z": 0})}))

    def test_near_dicts(self):
        web = laid_over(BOND, DOT)
        top = Charge({"x": 1})
        right = {("a", "b", "c"): FAIR, ("x",): top}
        self.assertEqual(str(put_over(web, right)), "a 0, b 1, c 1, x 1")
        wrong = [{}, {("x",): top}, {("a", "b", "c"): FAIR}, {**right, (): None}, {**right, ("a",): Charge({"a": 1})},
                 list(right.items()), tuple(right.items()), {**right, ("x",): (1, top)}, {**right, ("x",): top.times(2)},
                 {("a", "b", "c"): FAIR, "x": top}, {("c", "b", "a"): FAIR, ("x",): top}, {**right, ("x",): None},
                 {**right, ("x",): FAIR}, {**right, ("a", "b", "c"): Charge({"a": 1, "b": 1, "c": 0})},
                 {("a", "b", "c", "x"): kept_bill(web)}, {**right, None: None}, {**right, ("x",): top.pays}]
        for value in wrong + OTHER_KINDS:
            self.refuses(InvalidOperation, lambda: put_over(web, value))
        for near in near_tuples(("a", "b", "c"), ["a", "b", "c", "x"]):
            if isinstance(near, tuple) and near != ("a", "b", "c"):
                self.refuses(InvalidOperation, lambda: put_over(web, {near: FAIR, ("x",): top}))
        self.assertEqual(put_over(web, {("x",): top, ("a", "b", "c"): FAIR}), put_over(web, right))
        self.assertEqual(list(right), [("a", "b", "c"), ("x",)])

    def test_one_layer(self):
        for group in list(subsets(ROW.things))[:6]:
            value = {ROW.things: knot_charge(ROW, group)}
            if group in (("a", "b"), ("b", "c"), ("c", "d")):
                self.assertEqual(put_over(ROW, value), knot_charge(ROW, group))
            else:
                self.refuses(InvalidOperation, lambda: put_over(ROW, value))


if __name__ == "__main__":
    unittest.main()
