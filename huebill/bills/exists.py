"""Whether a web has kept bills, and the papers that show it."""

from math import gcd

from huebill.base.linear import greatest
from huebill.base.numbers import is_positive, reduced
from huebill.bills.charges import Charge
from huebill.bills.kept import is_bill, is_kept, is_within
from huebill.errors import InvalidOperation
from huebill.webs.colours import colours, full_loose, is_loose
from huebill.webs.webs import check_web


def is_scale(web, value):
    """Whether the value is a scale of the web."""
    check_web(web)
    if not isinstance(value, tuple) or len(value) != 2:
        return False
    unit, weights = value
    if not is_positive(unit) or not isinstance(weights, dict):
        return False
    for group in weights:
        if not is_loose(web, group) or len(group) == 0 or not is_positive(weights[group]):
            return False
    return all([_weight_on(weights, thing) >= unit for thing in web.things])


def scale_total(web, scale):
    """The sum of all weights of a scale, divided by its unit: a fraction."""
    if not is_scale(web, scale):
        raise InvalidOperation("no scale of the web")
    unit, weights = scale
    return reduced(sum(list(weights.values())), unit)


def parts_number(web):
    """The greatest total of a charge that is within, a fraction."""
    return parts_paper(web)[1].total


def parts_paper(web):
    """A charge that is within and a scale with the same total, which is the parts number."""
    check_web(web)
    # Who pays nothing below 0 pays most in full loose groups, and some greatest total needs nothing below 0.
    full = full_loose(web)
    rows = [[1 if thing in group else 0 for thing in web.things] for group in full]
    unit, values, weights = greatest(rows, [1] * len(full), [1] * len(web))
    charge = Charge(dict(zip(web.things, values)), unit=unit)
    return "parts", charge, _scale(unit, full, weights)


def is_parts_paper(web, value):
    """Whether the value is a paper for the parts number."""
    check_web(web)
    if not isinstance(value, tuple) or len(value) != 3:
        return False
    word, charge, scale = value
    if word != "parts" or not is_within(web, charge) or not is_scale(web, scale):
        return False
    return charge.total == scale_total(web, scale)


def has_kept(web):
    """Whether there is a kept bill."""
    return kept_bill(web) is not None


def kept_bill(web):
    """A kept bill, or None."""
    charge = parts_paper(web)[1]
    return charge if is_bill(web, charge) else None


def kept_paper(web):
    """A kept bill, or a scale that shows that there is none."""
    _, charge, scale = parts_paper(web)
    if is_bill(web, charge):
        return "kept", charge
    return "scale", scale


def is_kept_paper(web, value):
    """Whether the value is a paper for kept bills, or against them."""
    check_web(web)
    if not isinstance(value, tuple) or len(value) != 2:
        return False
    word, shown = value
    if word == "kept":
        return is_kept(web, shown)
    return word == "scale" and is_scale(web, shown) and _is_low(web, shown)


def _weight_on(weights, thing):
    """The weights of the groups that hold a thing, added up."""
    return sum([weights[group] for group in weights if thing in group])


def _scale(unit, full, weights):
    """The scale of the loose groups with a weight above 0, without a common divisor."""
    shared = unit
    for weight in weights:
        shared = gcd(shared, weight)
    return unit // shared, {group: weight // shared for group, weight in zip(full, weights) if weight > 0}


def _is_low(web, scale):
    """Whether a scale has a total below the colours of the web."""
    numerator, denominator = scale_total(web, scale)
    return numerator < colours(web) * denominator
