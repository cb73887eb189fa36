"""Stage 10: orders [0.11] [0.15] [10.1] [10.2]."""

import unittest
from collections import Counter
from fractions import Fraction
from itertools import islice, permutations
from math import factorial

from huebill.bills.charges import Charge
from huebill.bills.kept import is_bill, is_kept
from huebill.errors import InvalidGroup, InvalidOrder, InvalidWeb
from huebill.orders.orders import (
    count_kind, count_paying, is_kind, is_order, kind_bills, kind_order, kind_orders, mean_bill, order_bill,
    order_paying, payers,
)
from huebill.webs.webs import Web
from tests.helper import (
    BOND, BRIDGE, DOT, EIGHT, EMPTY_EIGHT, FIVE, OTHER_KINDS, RINGS, ROW, Case, all_knots, big_webs, near_tuples,
    plain_colours, plain_greatest, plain_kept, plain_knot, shares_of, small_webs, some_webs, subsets,
)

COMPLETE = ~EMPTY_EIGHT


def webs():
    """Small webs, all orders of which can be looked at."""
    yield from small_webs(4)
    yield from some_webs(5, 12, 51)
    yield from (FIVE, BRIDGE)


def plain_payers(web, order):
    """The things that pay, by the colours of all beginnings of the order."""
    counts = [plain_colours(web, tuple(sorted(order[:many]))) for many in range(len(order) + 1)]
    return tuple(sorted(thing for at, thing in enumerate(order) if counts[at + 1] > counts[at]))


def all_payers(web):
    """The dict from all orders, ascending, to their payers."""
    return {order: plain_payers(web, order) for order in permutations(web.things)}


class Orders(Case):
    def test_payers_of_all_orders(self):
        seen = set()
        for web in webs():
            for order, paying in list(all_payers(web).items())[::1 if len(web) < 5 else 7]:
                self.is_true(is_order(web, order))
                self.assertEqual(payers(web, order), paying)
                bill = order_bill(web, order)
                self.assertEqual(shares_of(bill), {thing: int(thing in paying) for thing in web})
                self.is_true(is_bill(web, bill))
                kind = plain_kept(web, bill)
                self.assertIs(is_kind(web, order), kind)
                self.assertEqual(kind, plain_knot(web, paying))
                self.assertIn(order[0], paying)
                seen.add(kind)
        self.assertEqual(len(seen), 2)

    def test_greater_webs(self):
        for web in big_webs():
            for order in (web.things, web.things[::-1], web.things[1::2] + web.things[::2]):
                self.assertEqual(payers(web, order), plain_payers(web, order))
                self.assertIs(is_kind(web, order), plain_knot(web, plain_payers(web, order)))

    def test_values_near_orders(self):
        for order in (("a", "b", "c"), ("c", "a", "b")):
            for near in near_tuples(order, OTHER_KINDS + ["a", "b", "c", "d"]):
                right = isinstance(near, tuple) and near in list(permutations("abc"))
                self.assertIs(is_order(BOND, near), right, near)
                if not right:
                    self.refuses(InvalidOrder, lambda: payers(BOND, near))

    def test_kind_orders(self):
        for web in webs():
            right = [order for order, paying in all_payers(web).items() if plain_knot(web, paying)]
            self.assertEqual(list(kind_orders(web)), right)
            self.assertEqual(count_kind(web), len(right))
            self.assertEqual(kind_bills(web), tuple(sorted({plain_payers(web, order) for order in right})))
            one = kind_order(web)
            if right:
                self.assertIn(one, right)
            else:
                self.assertIsNone(one)

    def test_kind_bills(self):
        for web in list(small_webs(4)) + list(big_webs()):
            many = plain_colours(web, web.things)
            right = tuple(sorted(knot for knot in all_knots(web) if len(knot) == many))
            self.assertEqual(kind_bills(web), right)
            self.assertEqual(count_kind(web) > 0, right != ())
            one = kind_order(web)
            self.assertEqual(one is not None, right != ())
            if one is not None:
                self.assertTrue(plain_knot(web, plain_payers(web, one)))
                self.assertEqual(sorted(one), list(web.things))

    def test_who_pays_not_can_go_to_the_end(self):
        for web in (BOND, BRIDGE, ROW):
            for order in islice(kind_orders(web), 60):
                for thing in [thing for thing in web if thing not in payers(web, order)]:
                    self.is_true(is_kind(web, tuple(one for one in order if one != thing) + (thing,)))

    def test_great_webs(self):
        self.assertEqual([count_kind(web) for web in (EMPTY_EIGHT, COMPLETE, EIGHT, FIVE)], [40320, 40320, 0, 0])
        self.assertEqual(next(kind_orders(EMPTY_EIGHT)), EMPTY_EIGHT.things)
        self.assertEqual(list(islice(kind_orders(COMPLETE), 40319, None)), [COMPLETE.things[::-1]])
        self.assertEqual(list(kind_orders(EIGHT)), [])
        self.assertEqual(list(kind_orders(FIVE)), [])
        self.assertEqual(sum(1 for _ in kind_orders(BRIDGE)), count_kind(BRIDGE))
        self.assertEqual(sum(1 for _ in kind_orders(RINGS[5])), count_kind(RINGS[5]))

    def test_generators_that_are_asked_for_one_element(self):
        for web in big_webs():
            found = kind_orders(web)
            self.assertIs(iter(found), found)
            one = next(found, None)
            if kind_bills(web) == ():
                self.assertIsNone(one)
            else:
                self.assertTrue(plain_knot(web, plain_payers(web, one)))


class Counts(Case):
    def test_counts(self):
        for web in webs():
            counts = Counter(all_payers(web).values())
            total = 0
            for group in subsets(web.things):
                self.assertEqual(count_paying(web, group), counts[group])
                total += counts[group]
                order = order_paying(web, group)
                if counts[group]:
                    self.assertIs(type(order), tuple)
                    self.assertEqual(sorted(order), list(web.things))
                    self.assertEqual(plain_payers(web, order), group)
                else:
                    self.assertIsNone(order)
            self.assertEqual(total, factorial(len(web)))

    def test_greater_webs(self):
        for web in big_webs():
            for group in list(subsets(web.things))[::23] + plain_greatest(web)[:1]:
                order = order_paying(web, group)
                self.assertEqual(order is None, count_paying(web, group) == 0)
                if order is not None:
                    self.assertEqual(plain_payers(web, order), group)
        for web in (EIGHT, EMPTY_EIGHT, RINGS[4]):
            self.assertEqual(sum(count_paying(web, group) for group in subsets(web.things)), factorial(len(web)))

    def test_mean_bills(self):
        for web in webs():
            orders = all_payers(web).values()
            times = Counter(thing for paying in orders for thing in paying)
            mean = {thing: Fraction(times[thing], len(orders)) for thing in web}
            self.assertEqual(shares_of(mean_bill(web)), mean)
            self.is_true(is_bill(web, mean_bill(web)))
            self.assertTrue(all(share > 0 for share in mean.values()))

    def test_mean_bills_of_greater_webs(self):
        for web in list(big_webs())[::3]:
            self.is_true(is_bill(web, mean_bill(web)))
            self.assertTrue(all(share > 0 for share in shares_of(mean_bill(web)).values()))
            counts = {group: count_paying(web, group) for group in subsets(web.things)}
            for thing in web.things[::3]:
                paid = sum(many for group, many in counts.items() if thing in group)
                self.assertEqual(Fraction(*mean_bill(web)[thing]), Fraction(paid, factorial(len(web))))
        self.assertEqual(mean_bill(EMPTY_EIGHT), Charge({thing: 1 for thing in EMPTY_EIGHT}, unit=8))
        self.assertEqual(mean_bill(DOT), Charge({"x": 1}))
        self.is_false(is_kept(BOND, mean_bill(BOND)))


class Refusals(Case):
    def test_no_web(self):
        for value in [value for value in OTHER_KINDS if not isinstance(value, Web)] + [FIVE.things]:
            for call in (kind_order, count_kind, mean_bill, kind_bills):
                self.refuses(InvalidWeb, lambda: call(value))
            for call in (is_order, order_bill, payers, is_kind, count_paying, order_paying):
                self.refuses(InvalidWeb, lambda: call(value, None))

    def test_no_order(self):
        others = [("a", "b"), ("a", "b", "b"), ("a", "b", "c", "d"), ["a", "b", "c"], "abc", ("a", "b", "x"), (), BOND]
        for value in OTHER_KINDS + others:
            self.is_false(is_order(BOND, value))
            for call in (order_bill, payers, is_kind):
                self.refuses(InvalidOrder, lambda: call(BOND, value))
                self.refuses(InvalidOrder, lambda: call(EIGHT, value))

    def test_no_group(self):
        for value in OTHER_KINDS + [("b", "a"), ("z",), "a", ["a"], ("a", "a")]:
            for call in (count_paying, order_paying):
                self.refuses(InvalidGroup, lambda: call(BOND, value))

    def test_a_generator_raises_when_asked(self):
        for value in [value for value in OTHER_KINDS if not isinstance(value, Web)]:
            found = kind_orders(value)
            self.refuses(InvalidWeb, lambda: next(found))
            with self.assertRaises(StopIteration):
                next(found)


if __name__ == "__main__":
    unittest.main()
