"""Exact webs, by whose kept bills each group can pay all its colours, and wide ones, whose charges can be lifted."""

from huebill.base.linear import greatest
from huebill.base.numbers import is_positive
from huebill.base.shares import positive_parts
from huebill.bills.charges import check_charge, knot_charge
from huebill.bills.kept import is_kept, is_within
from huebill.bills.mixtures import mixture
from huebill.webs.colours import colours, colours_of_groups, full_knots, greatest_knots, groups, is_for_groups
from huebill.webs.good import check_good, good_paper, is_good, is_spoiled_paper
from huebill.webs.webs import check_group, check_web


def is_exact(web):
    """Whether each group pays all its colours in some kept bill."""
    return is_good(web) and _low_knot(web) is None


def exact_paper(web):
    """A greatest knot for each group by which it pays its colours; or what shows that the web is not exact."""
    if not is_good(web):
        return good_paper(web)
    low = _low_knot(web)
    if low is not None:
        return "knot", low
    knots = greatest_knots(web)
    return "exact", {group: _most_of(knots, group) for group in groups(web)[1:]}


def is_exact_paper(web, value):
    """Whether the value is a paper for exact webs, or against them."""
    check_web(web)
    if not isinstance(value, tuple) or len(value) != 2:
        return False
    word, shown = value
    if word == "exact":
        return _are_exact_knots(web, shown)
    if word == "knot":
        return shown in full_knots(web) and len(shown) < colours(web)
    return is_spoiled_paper(web, word, shown)


def paying_bill(web, group):
    """A kept bill by which a group pays its colours, or None."""
    check_web(web)
    check_group(web, group)
    check_good(web)
    knot = _most_of(greatest_knots(web), group)
    return knot_charge(web, knot) if _held(knot, group) == colours(web, group) else None


def lift(web, charge):
    """A kept bill by which no thing pays less than by the charge, or None."""
    word, shown = lift_paper(web, charge)
    return shown if word == "lift" else None


def lift_paper(web, charge):
    """A kept bill that lifts the charge, or pulls that show that there is none.

    Pulls are sought as numbers from 0 on, with a sum of at most 1, and a bar from 0 on that no greatest knot is above,
    such that what is paid, each times its pull, is as far above the bar as possible. If that is nowhere above 0, the
    weights of the knots that show it are shares of a kept bill that lifts the charge.
    """
    check_web(web)
    check_charge(web, charge)
    check_good(web)
    knots = greatest_knots(web)
    pays = [charge.pays[thing] for thing in web.things]
    rows = [[*[1 if thing in knot else 0 for thing in web.things], -1] for knot in knots]
    rows.append([*[1 for _ in web.things], 0])
    unit, values, weights = greatest(rows, [0 for _ in knots] + [1], pays + [-charge.unit])
    pulls = positive_parts(web.things, values[:-1])
    if _are_pulls(web, charge, pulls):
        return "pulls", pulls
    # The shares can have a sum below 1. What is left can go to any greatest knot: no thing pays less so.
    shares = dict(zip(knots, weights[:-1]))
    whole = unit * charge.unit
    shares[knots[0]] += whole - sum(weights[:-1])
    return "lift", mixture(web, (whole, shares))


def is_lift_paper(web, charge, value):
    """Whether the value is a paper for the lifting of the charge, or against it."""
    check_web(web)
    check_charge(web, charge)
    check_good(web)
    if not isinstance(value, tuple) or len(value) != 2:
        return False
    word, shown = value
    if word == "lift":
        return is_kept(web, shown) and min(list((shown - charge).pays.values())) >= 0
    return word == "pulls" and _are_pulls(web, charge, shown)


def is_wide(web):
    """Whether each charge that is within lies below, or at, a kept bill."""
    check_good(web)
    return _low_knot(web) is None


def wide_paper(web):
    """All full knots, which have equally many things; or a charge that is within, and pulls of it."""
    check_good(web)
    low = _low_knot(web)
    if low is None:
        return "wide", full_knots(web)
    return "low", knot_charge(web, low), {thing: 1 for thing in low}


def is_wide_paper(web, value):
    """Whether the value is a paper for wide webs, or against them."""
    check_good(web)
    if not isinstance(value, tuple) or len(value) not in (2, 3):
        return False
    if len(value) == 2:
        return value[0] == "wide" and value[1] == full_knots(web) == greatest_knots(web)
    return value[0] == "low" and is_within(web, value[1]) and _are_pulls(web, value[1], value[2])


def _low_knot(web):
    """The first full knot with less things than a greatest knot has, or None."""
    most = len(greatest_knots(web)[0])
    low = [knot for knot in full_knots(web) if len(knot) < most]
    return low[0] if len(low) > 0 else None


def _held(knot, group):
    """How many things of a group a knot has."""
    return len([thing for thing in group if thing in knot])


def _most_of(knots, group):
    """The knot that has the most things of a group, of several the last one."""
    return max([(_held(knot, group), knot) for knot in knots])[1]


def _are_exact_knots(web, value):
    """Whether the value is a dict from all groups to greatest knots that have of each as many things as its colours.

    The greatest knots have as many things as the web has colours, because the group of all things stands there, too.
    """
    if not is_for_groups(web, value):
        return False
    counts = colours_of_groups(web)
    knots = greatest_knots(web)
    return all([value[group] in knots and _held(value[group], group) == counts[group] for group in value])


def _are_pulls(web, charge, value):
    """Whether the value is a dict of pulls of the charge."""
    if not isinstance(value, dict) or len(value) == 0:
        return False
    if not all([thing in web and is_positive(value[thing]) for thing in value]):
        return False
    pays = charge.pays
    paid = sum([value[thing] * pays[thing] for thing in value])
    sums = [sum([value[thing] for thing in knot if thing in value]) for knot in greatest_knots(web)]
    return max(sums) * charge.unit < paid
