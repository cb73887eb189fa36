"""Even bills: the least height and the greatest floor of kept bills, and the bill by which all pay the same."""

from huebill.base.linear import balanced
from huebill.base.numbers import reduced
from huebill.base.shares import are_shares, share_pair
from huebill.bills.charges import charge_over
from huebill.bills.kept import is_kept
from huebill.bills.mixtures import holding_table, mixture
from huebill.webs.colours import colours, greatest_knots
from huebill.webs.good import check_good


def least_height(web):
    """The least height of a kept bill, a fraction."""
    charge = height_paper(web)[1]
    return reduced(_height(charge), charge.unit)


def greatest_floor(web):
    """The greatest floor of a kept bill, a fraction."""
    charge = floor_paper(web)[1]
    return reduced(_floor(charge), charge.unit)


def height_paper(web):
    """A kept bill of the least height, and weights by which each greatest knot weighs at least so much."""
    check_good(web)
    knots = greatest_knots(web)
    weights, shares = balanced(holding_table(web.things, knots))
    return "height", mixture(web, share_pair(knots, shares)), share_pair(web.things, weights)


def is_height_paper(web, value):
    """Whether the value is a paper for the least height."""
    check_good(web)
    if not _is_even_paper(web, value, "height"):
        return False
    _, charge, (unit, weights) = value
    return min(_knot_weights(web, weights)) * charge.unit >= _height(charge) * unit


def floor_paper(web):
    """A kept bill of the greatest floor, and weights by which each greatest knot weighs at most so much."""
    check_good(web)
    knots = greatest_knots(web)
    table = [[1 if thing in knot else 0 for thing in web.things] for knot in knots]
    shares, weights = balanced(table)
    return "floor", mixture(web, share_pair(knots, shares)), share_pair(web.things, weights)


def is_floor_paper(web, value):
    """Whether the value is a paper for the greatest floor."""
    check_good(web)
    if not _is_even_paper(web, value, "floor"):
        return False
    _, charge, (unit, weights) = value
    return max(_knot_weights(web, weights)) * charge.unit <= _floor(charge) * unit


def equal_bill(web):
    """The bill by which each thing pays the same."""
    many = colours(web)
    return charge_over({thing: many for thing in web.things}, len(web))


def is_equal_kept(web):
    """Whether the equal bill is kept."""
    return is_kept(web, equal_bill(web))


def _is_even_paper(web, value, word):
    """Whether the value is a triple of this word, a kept bill and weights."""
    if not isinstance(value, tuple) or len(value) != 3:
        return False
    return value[0] == word and is_kept(web, value[1]) and are_shares(value[2], web.things)


def _knot_weights(web, weights):
    """What the greatest knots weigh, times the unit."""
    return [sum([weights[thing] for thing in knot if thing in weights]) for knot in greatest_knots(web)]


def _height(charge):
    """The most that one thing pays, times the unit."""
    return max(list(charge.pays.values()))


def _floor(charge):
    """The least that one thing pays, times the unit."""
    return min(list(charge.pays.values()))
