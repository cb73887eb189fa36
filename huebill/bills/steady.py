"""Steady webs: each proposal that is not kept is beaten by a kept bill."""

from huebill.bills.charges import Charge, check_charge
from huebill.bills.kept import is_bill, is_kept, objections
from huebill.bills.mixtures import mixture
from huebill.errors import InvalidOperation
from huebill.webs.colours import colours, greatest_knots
from huebill.webs.good import check_good
from huebill.webs.webs import check_group, check_web


def is_proposal(web, value):
    """Whether the value is a bill by which no thing pays more than 1."""
    return is_bill(web, value) and max(list(value.pays.values())) <= value.unit


def does_beat(web, charge, other, group):
    """Whether a kept bill beats a proposal through a group."""
    check_web(web)
    check_charge(web, charge)
    check_charge(web, other)
    check_group(web, group)
    if not is_kept(web, charge):
        raise InvalidOperation("the first charge is no kept bill")
    if not is_proposal(web, other):
        raise InvalidOperation("the other charge is no proposal")
    less = (other - charge).pays
    if group == () or not all([less[thing] > 0 for thing in group]):
        return False
    return charge.of(group) == (colours(web, group), 1)


def is_beaten(web, charge):
    """Whether some kept bill beats a proposal."""
    return beating(web, charge) is not None


def beating(web, charge):
    """A kept bill that beats a proposal and a group through which it does; or None."""
    check_web(web)
    check_charge(web, charge)
    if not is_proposal(web, charge):
        raise InvalidOperation("the charge is no proposal")
    check_good(web)
    holding = _holding_knots(web)
    heavy = [group for group in objections(web, charge) if all([thing in holding for thing in group])]
    if len(heavy) == 0:
        return None
    pays = charge.pays
    group = tuple([thing for thing in heavy[0] if pays[thing] > 0])
    # A knot holds at most one thing of a loose group. So each thing gets its own part of 1, which is less than it pays
    # by the proposal, because together they pay more than 1 by this.
    shares = {holding[thing]: pays[thing] for thing in group}
    return mixture(web, (sum(list(shares.values())), shares)), group


def is_steady(web):
    """Whether each proposal that is not kept is beaten by a kept bill."""
    return steady_paper(web)[0] == "steady"


def unbeaten(web):
    """A proposal that is not kept and that no kept bill beats; or None."""
    word, shown = steady_paper(web)
    if word == "steady":
        return None
    knot = greatest_knots(web)[0]
    pays = {thing: 2 if thing in knot else 0 for thing in web.things}
    pays[knot[0]] = 1
    pays[shown] = 1
    return Charge(pays, unit=2)


def steady_paper(web):
    """A greatest knot for each thing, that holds it; or a thing that lies in none."""
    check_good(web)
    holding = _holding_knots(web)
    left = [thing for thing in web.things if thing not in holding]
    return ("left", left[0]) if len(left) > 0 else ("steady", holding)


def is_steady_paper(web, value):
    """Whether the value is a paper for steady webs, or against them."""
    check_good(web)
    if not isinstance(value, tuple) or len(value) != 2:
        return False
    word, shown = value
    if word == "left":
        return shown in web and shown not in _holding_knots(web)
    return word == "steady" and _are_holding_knots(web, shown)


def _holding_knots(web):
    """The dict from the things that lie in greatest knots to the first one of these that holds them."""
    found = {}
    for knot in greatest_knots(web):
        for thing in knot:
            found.setdefault(thing, knot)
    return {thing: found[thing] for thing in sorted(found)}


def _are_holding_knots(web, value):
    """Whether the value is a dict from all things to greatest knots that hold them."""
    if not isinstance(value, dict) or len(value) != len(web):
        return False
    knots = greatest_knots(web)
    return all([value[thing] in knots and thing in value[thing] for thing in value])
