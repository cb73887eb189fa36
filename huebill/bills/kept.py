"""Which charges are within, which are bills and which are kept."""

from huebill.base.numbers import reduced
from huebill.bills.charges import check_charge, is_charge_of
from huebill.webs.colours import colours, colours_of_groups, loose_groups
from huebill.webs.webs import check_group, check_thing, check_web


def excess(web, charge, group):
    """What a group pays, less its colours: a fraction."""
    check_web(web)
    check_charge(web, charge)
    check_group(web, group)
    return reduced(_excess_in_units(charge, group, colours(web, group)), charge.unit)


def is_within(web, value):
    """Whether the value is a charge of the web by which no group pays more than its colours."""
    check_web(web)
    return is_charge_of(web, value) and objections(web, value) == ()


def is_bill(web, value):
    """Whether the value is a charge of the web by which all things together pay its colours."""
    check_web(web)
    return is_charge_of(web, value) and value.total == (colours(web), 1)


def is_kept(web, value):
    """Whether the value is a bill of the web that is within."""
    return is_bill(web, value) and is_within(web, value)


def objection(web, charge):
    """A group that pays more than its colours, or None."""
    found = objections(web, charge)
    return found[0] if len(found) > 0 else None


def objections(web, charge):
    """All loose groups that pay more than 1, ascending."""
    check_web(web)
    check_charge(web, charge)
    return tuple([group for group in loose_groups(web) if _excess_in_units(charge, group, 1) > 0])


def worst(web, charge):
    """The greatest excess at a group, and the first such group by the number of its things, then ascending."""
    check_web(web)
    check_charge(web, charge)
    table = colours_of_groups(web)
    less, _, group = min([(-_excess_in_units(charge, group, table[group]), len(group), group) for group in table])
    return reduced(-less, charge.unit), group


def gain(web, charge, thing):
    """What a thing adds to the colours of all others, less what it pays: a fraction."""
    check_web(web)
    check_charge(web, charge)
    check_thing(web, thing)
    others = tuple([other for other in web.things if other != thing])
    added = colours(web) - colours(web, others)
    return reduced(-_excess_in_units(charge, (thing,), added), charge.unit)


def _excess_in_units(charge, group, many):
    """What a group pays, less so many colours, times the unit of the charge."""
    pays = charge.pays
    return sum([pays[thing] for thing in group]) - many * charge.unit
