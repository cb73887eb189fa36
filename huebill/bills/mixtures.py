"""Mixtures of greatest knots: the kept bills of good webs."""

from huebill.base.linear import greatest
from huebill.base.numbers import is_integer
from huebill.base.shares import are_shares, share_pair
from huebill.base.spans import relations
from huebill.bills.charges import charge_over, check_charge
from huebill.bills.kept import is_kept
from huebill.errors import InvalidNumber, InvalidOperation
from huebill.webs.colours import greatest_knots
from huebill.webs.good import check_good
from huebill.webs.webs import check_group, check_web


def is_mixing(web, value):
    """Whether the value is a mixing of the web."""
    check_good(web)
    return are_shares(value, greatest_knots(web))


def mixing_charge(web, mixing):
    """The charge of a mixing."""
    check_web(web)
    if not are_shares(mixing, greatest_knots(web)):
        raise InvalidOperation("no mixing of the web")
    check_good(web)
    return mixture(web, mixing)


def mixing(web, charge):
    """A mixing with a kept bill as its charge, with at most as many knots as the web has things."""
    check_web(web)
    check_charge(web, charge)
    if not is_kept(web, charge):
        raise InvalidOperation("the charge is no kept bill")
    check_good(web)
    knots = greatest_knots(web)
    pays = charge.pays
    # A solution that is found so has at most as many shares above 0 as there are rows. All knots have equally many
    # things, so the shares with the greatest sum use up all that is paid.
    _, shares, _ = greatest(holding_table(web.things, knots), [pays[thing] for thing in web.things], [1] * len(knots))
    return share_pair(knots, shares)


def is_mixing_of(web, charge, value):
    """Whether the value is a mixing that has this charge."""
    check_web(web)
    check_charge(web, charge)
    return is_mixing(web, value) and mixture(web, value) == charge


def pay_range(web, group):
    """The least and the greatest number that a group can pay by kept bills."""
    check_web(web)
    check_group(web, group)
    check_good(web)
    (least, _), (most, _) = _ends(web, group)
    return least, most


def bill_with(web, group, numerator, denominator):
    """A kept bill by which a group pays a fraction."""
    check_web(web)
    check_group(web, group)
    if not is_integer(numerator):
        raise InvalidNumber(numerator)
    if not is_integer(denominator) or denominator < 1:
        raise InvalidNumber(denominator)
    (least, low_knot), (most, high_knot) = _ends(web, group)
    above = numerator - least * denominator
    below = most * denominator - numerator
    if above < 0 or below < 0:
        raise InvalidOperation("by no kept bill the group pays this")
    check_good(web)
    if least == most:
        return mixture(web, (1, {low_knot: 1}))
    return mixture(web, (above + below, {low_knot: below, high_knot: above}))


def never_pay(web):
    """The things that pay 0 by each kept bill."""
    check_good(web)
    knots = greatest_knots(web)
    return tuple([thing for thing in web.things if not any([thing in knot for knot in knots])])


def always_pay(web):
    """The things that pay 1 by each kept bill."""
    check_good(web)
    knots = greatest_knots(web)
    return tuple([thing for thing in web.things if all([thing in knot for knot in knots])])


def is_fixing(web, group):
    """Whether no two different kept bills let each thing of the group pay the same."""
    return alike_at(web, group) is None


def fixing_group(web):
    """The first fixing group, by the number of its things and then ascending."""
    check_good(web)
    group = ()
    free = len(_relations_at(web, group))
    for thing in web.things:
        more = group + (thing,)
        left = len(_relations_at(web, more))
        if left < free:
            group = more
            free = left
    return group


def freedom(web):
    """The least number of things in a fixing group."""
    return len(fixing_group(web))


def alike_at(web, group):
    """Two different kept bills by which each thing of the group pays the same, or None."""
    check_web(web)
    check_group(web, group)
    check_good(web)
    knots = greatest_knots(web)
    for relation in _relations_at(web, group):
        one = mixture(web, share_pair(knots, relation))
        other = mixture(web, share_pair(knots, [-number for number in relation]))
        if one != other:
            return one, other
    return None


def mixture(web, shares):
    """The charge of a pair of a unit and the dict of the shares of knots."""
    unit, parts = shares
    return charge_over({thing: sum([parts[knot] for knot in parts if thing in knot]) for thing in web.things}, unit)


def holding_table(things, knots):
    """A row for each thing, and in it for each knot whether it holds the thing: 1 or 0."""
    return [[1 if thing in knot else 0 for knot in knots] for thing in things]


def _ends(web, group):
    """The least and the greatest number of things of a group in one greatest knot, each with such a knot."""
    counted = [(len([thing for thing in group if thing in knot]), knot) for knot in greatest_knots(web)]
    return min(counted), max(counted)


def _relations_at(web, group):
    """The ways to change the shares of the greatest knots, by which no thing of the group pays more or less."""
    return relations([[1, *[1 if thing in knot else 0 for thing in group]] for knot in greatest_knots(web)])
