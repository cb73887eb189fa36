"""Orders: what things pay as they come one after the other."""

from math import factorial

from huebill.bills.charges import charge_over, knot_charge
from huebill.errors import InvalidOrder
from huebill.webs.colours import colours_by_mask, greatest_knots, is_enough, is_knot, mask_of
from huebill.webs.webs import check_group, check_web


def is_order(web, value):
    """Whether the value is a tuple of all things of the web, each once."""
    check_web(web)
    if not isinstance(value, tuple) or len(value) != len(web):
        return False
    return all([thing in web for thing in value]) and len(set(value)) == len(web)


def order_bill(web, order):
    """The charge by which each thing pays how many colours more are needed with it than before it came."""
    return knot_charge(web, payers(web, order))


def payers(web, order):
    """The things that pay by the order bill, ascending."""
    check_web(web)
    check_order(web, order)
    counts = colours_by_mask(web)
    paying = [thing for at, thing in enumerate(order) if _is_paying(web, counts, order[:at], thing)]
    return tuple(sorted(paying))


def is_kind(web, order):
    """Whether the order bill of an order is kept, that is, whether the things that pay are a knot."""
    return is_knot(web, payers(web, order))


def kind_order(web):
    """A kind order, or None."""
    if not is_enough(web):
        return None
    knot = greatest_knots(web)[0]
    return knot + tuple([thing for thing in web.things if thing not in knot])


def kind_orders(web):
    """Yields all kind orders, ascending."""
    check_web(web)
    counts = colours_by_mask(web)
    knots = [mask_of(web, knot) for knot in kind_bills(web)]
    yield from _kind_orders_after(web, counts, knots, (), 0)


def count_paying(web, group):
    """The number of the orders whose payers are just the things of a group."""
    check_web(web)
    check_group(web, group)
    return _ways_of_paying(web, colours_by_mask(web), group)[-1]


def count_kind(web):
    """The number of all kind orders."""
    counts = colours_by_mask(web)
    return sum([_ways_of_paying(web, counts, knot)[-1] for knot in kind_bills(web)])


def order_paying(web, group):
    """An order whose payers are just the things of a group, or None."""
    check_web(web)
    check_group(web, group)
    counts = colours_by_mask(web)
    ways = _ways_of_paying(web, counts, group)
    if ways[-1] == 0:
        return None
    order = ()
    mask = len(ways) - 1
    while mask > 0:
        at = [last for last in _last_places(web, counts, group, mask) if ways[mask - (1 << last)] > 0][0]
        order = (web.things[at],) + order
        mask = mask - (1 << at)
    return order


def mean_bill(web):
    """The charge by which each thing pays the mean of what it pays by all orders."""
    counts = colours_by_mask(web)
    pays = {thing: _times_paying(web, counts, 1 << at) for at, thing in enumerate(web.things)}
    return charge_over(pays, factorial(len(web)))


def kind_bills(web):
    """The payers of all kind orders, ascending: the knots with as many things as the web has colours."""
    return greatest_knots(web) if is_enough(web) else ()


def check_order(web, order):
    """Refuses what is no order of the web."""
    if not is_order(web, order):
        raise InvalidOrder("no order of the web")


def _is_paying(web, counts, ahead, thing):
    """Whether a thing needs one colour more than the things ahead of it."""
    return counts[mask_of(web, ahead + (thing,))] > counts[mask_of(web, ahead)]


def _kind_orders_after(web, counts, knots, ahead, mask):
    """Yields all kind orders with some things ahead, whose payers are one of the knots, ascending.

    Of each of these knots just the things pay that are ahead. So its other things can come next, and all pay: each
    call finds some order.
    """
    if len(ahead) == len(web):
        yield ahead
    for at, thing in enumerate(web.things):
        bit = 1 << at
        if mask & bit == 0:
            grown = mask | bit
            does_pay = counts[grown] > counts[mask]
            left = [knot for knot in knots if (knot & bit > 0) == does_pay]
            if len(left) > 0:
                begun = ahead + (thing,)
                yield from _kind_orders_after(web, counts, left, begun, grown)


def _ways_of_paying(web, counts, group):
    """For each mask how many orders its things have in which just those of a group pay."""
    ways = [1]
    for mask in range(1, len(counts)):
        ways.append(sum([ways[mask - (1 << at)] for at in _last_places(web, counts, group, mask)]))
    return ways


def _last_places(web, counts, group, mask):
    """The places of the things of a mask that can come last, so that the last one pays just if the group has it."""
    found = []
    for at, thing in enumerate(web.things):
        bit = 1 << at
        if mask & bit > 0 and (counts[mask] > counts[mask - bit]) == (thing in group):
            found.append(at)
    return found


def _times_paying(web, counts, bit):
    """In how many orders the thing with this bit pays."""
    times = 0
    for mask in range(len(counts)):
        if counts[mask | bit] > counts[mask]:
            ahead = _size(mask)
            times += factorial(ahead) * factorial(len(web) - ahead - 1)
    return times


def _size(mask):
    """The number of things of a mask."""
    size = 0
    while mask > 0:
        size += mask & 1
        mask = mask >> 1
    return size
