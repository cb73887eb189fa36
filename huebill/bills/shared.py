"""Kept bills of webs that are laid beside and over one another: what the pieces and the layers pay."""

from huebill.base.numbers import is_integer, reduced
from huebill.bills.charges import charge_over, check_charge, knot_charge
from huebill.bills.kept import is_kept
from huebill.errors import InvalidOperation
from huebill.webs.colours import colours
from huebill.webs.joined import layers, pieces
from huebill.webs.webs import check_web


def shares(web, charge):
    """The dict from all pieces to their shares in a kept bill, fractions."""
    _check_kept(web, charge)
    many = colours(web)
    found = {}
    for piece in pieces(web):
        over, under = charge.of(piece)
        found[piece] = reduced(over, under * many)
    return found


def piece_bills(web, charge):
    """The dict from the pieces with a share above 0 to what their things pay, divided by this share."""
    _check_kept(web, charge)
    many = colours(web)
    pays = charge.pays
    found = {}
    for piece in pieces(web):
        paid = sum([pays[thing] for thing in piece])
        if paid > 0:
            found[piece] = charge_over({thing: pays[thing] * many for thing in piece}, paid)
    return found


def layer_bills(web, charge):
    """The dict from all layers to the cuts of a kept bill."""
    _check_kept(web, charge)
    return {layer: charge.cut(layer) for layer in layers(web)}


def put_together(web, bills):
    """The kept bill by which pieces pay by bills of their own, each with a share."""
    check_web(web)
    if not _are_piece_bills(web, bills):
        raise InvalidOperation("no dict from pieces with all colours to integers and kept bills")
    whole = sum([many for many, _ in bills.values()])
    charge = knot_charge(web, ())
    for many, bill in bills.values():
        pays = bill.pays
        charge = charge + charge_over({thing: many * pays.get(thing, 0) for thing in web.things}, whole * bill.unit)
    return charge


def put_over(web, bills):
    """The kept bill by which all layers pay by bills of their own."""
    check_web(web)
    if not _are_layer_bills(web, bills):
        raise InvalidOperation("no dict from all layers to kept bills")
    first, *rest = layers(web)
    charge = bills[first].cut(first)
    for layer in rest:
        charge = charge.put_beside(bills[layer])
    return charge


def _check_kept(web, charge):
    """Refuses what is no web, no charge of it, or no kept bill."""
    check_web(web)
    check_charge(web, charge)
    if not is_kept(web, charge):
        raise InvalidOperation("the charge is no kept bill")


def _are_piece_bills(web, value):
    """Whether the value is a dict from pieces with all colours to pairs of an integer and a kept bill."""
    if not isinstance(value, dict) or len(value) == 0:
        return False
    many = colours(web)
    whole = [piece for piece in pieces(web) if colours(web, piece) == many]
    return all([key in whole and _is_share_and_bill(web, key, value[key]) for key in value])


def _is_share_and_bill(web, piece, value):
    """Whether the value is a pair of an integer of at least 1 and a kept bill of the part of a piece."""
    if not isinstance(value, tuple) or len(value) != 2:
        return False
    many, bill = value
    return is_integer(many) and many >= 1 and is_kept(web.part(piece), bill)


def _are_layer_bills(web, value):
    """Whether the value is a dict from all layers to kept bills of their parts."""
    found = layers(web)
    if not isinstance(value, dict) or len(value) != len(found):
        return False
    return all([key in found and is_kept(web.part(key), value[key]) for key in value])
