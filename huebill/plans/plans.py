"""Plans, and the trees that tell them."""

from huebill.bills.charges import Charge
from huebill.bills.kept import is_kept
from huebill.errors import InvalidOperation, InvalidPlan
from huebill.orders.orders import check_order
from huebill.webs.colours import groups, is_for_groups
from huebill.webs.joined import layers
from huebill.webs.webs import check_group, check_web, has_shape

# The places, among four things, of those that are in conflict.
_ROW = ((0, 1), (1, 2), (2, 3))
_APART = ((0, 1), (2, 3))


def is_tree(web, value):
    """Whether the value is a tree of the web."""
    check_web(web)
    things = _things_of(web, value)
    return things is not None and sorted(things) == list(web.things)


def tree(web):
    """A tree of the web, or None."""
    check_web(web)
    if len(web) == 1:
        return "one", web.things[0]
    for thing in web.things:
        if web.beside(thing) == ():
            rest = tree(web.without(thing))
            return None if rest is None else ("free", thing, rest)
    layer = layers(web)[0]
    if len(layer) == len(web):
        return None
    first = tree(web.part(layer))
    rest = tree(web.without(*layer))
    return None if first is None or rest is None else ("over", first, rest)


def tree_bill(web, tree, group):
    """The charge of the things of a group by which they pay as by a tree."""
    check_web(web)
    _check_tree(web, tree)
    check_group(web, group)
    if group == ():
        raise InvalidOperation("the empty group has no bill")
    return _bill_by(tree, group)


def bills_along(web, tree, order):
    """What the things pay as by a tree when they come in an order: a charge of the first one, of the first two .."""
    check_web(web)
    _check_tree(web, tree)
    check_order(web, order)
    return tuple([_bill_by(tree, tuple(sorted(order[:at + 1]))) for at in range(len(order))])


def has_plan(web):
    """Whether the web has a plan."""
    return tree(web) is not None


def plan_paper(web):
    """A tree, or four things that show that there is no plan."""
    found = tree(web)
    if found is not None:
        return "tree", found
    return _bad_four(web)


def is_plan_paper(web, value):
    """Whether the value is a paper for plans, or against them."""
    check_web(web)
    if not isinstance(value, tuple) or len(value) == 0:
        return False
    if value[0] == "tree":
        return len(value) == 2 and is_tree(web, value[1])
    if len(value) != 5:
        return False
    if value[0] == "row":
        return has_shape(web, value[1:], _ROW)
    return value[0] == "apart" and has_shape(web, value[1:], _APART)


def is_plan(web, value):
    """Whether the value is a dict from all groups but the empty one to charges that is a plan."""
    check_web(web)
    if not _are_bills(web, value) or not all([is_kept(web.part(group), value[group]) for group in value]):
        return False
    return _rises(value) == ()


def plan(web):
    """A plan, or None."""
    found = tree(web)
    return None if found is None else tree_plan(web, found)


def tree_plan(web, tree):
    """The plan of a tree."""
    check_web(web)
    _check_tree(web, tree)
    return {group: _bill_by(tree, group) for group in groups(web)[1:]}


def rises(web, bills):
    """All triples of a thing, a group and this group with one thing more in which the thing pays more, ascending."""
    check_web(web)
    if not _are_bills(web, bills):
        raise InvalidPlan("no dict from all groups to charges of their things")
    return _rises(bills)


def mixed_plan(web, one, other, numerator, denominator):
    """The plan that takes of one plan a fraction, and of another one the rest to 1."""
    check_web(web)
    for value in (one, other):
        if not is_plan(web, value):
            raise InvalidPlan("no plan of the web")
    # The charges refuse numbers that tell no fraction from 0 to 1, in this order too.
    return {group: one[group].mixed(other[group], numerator, denominator) for group in sorted(one)}


def _things_of(web, value):
    """The things of a tree, or None if the value is no tree that tells the conflicts of these things."""
    if not isinstance(value, tuple) or len(value) not in (2, 3):
        return None
    if len(value) == 2:
        return (value[1],) if value[0] == "one" and value[1] in web else None
    if value[0] not in ("free", "over"):
        return None
    is_over = value[0] == "over"
    first = _things_of(web, value[1] if is_over else ("one", value[1]))
    rest = _things_of(web, value[2])
    if first is None or rest is None:
        return None
    if not all([web.are_tied(one, other) == is_over for one in first for other in rest]):
        return None
    return first + rest


def _check_tree(web, value):
    if not is_tree(web, value):
        raise InvalidPlan("no tree of the web")


def _bill_by(tree, group):
    """The charge of the things of a group, not the empty one, by which they pay as by a tree."""
    paying = _payers_by(tree, group)
    return Charge({thing: 1 if thing in paying else 0 for thing in group})


def _payers_by(tree, group):
    """The things of a group that pay by a tree that can have other things, too."""
    if tree[0] == "one":
        return (tree[1],) if tree[1] in group else ()
    if tree[0] == "over":
        return _payers_by(tree[1], group) + _payers_by(tree[2], group)
    paying = _payers_by(tree[2], group)
    # The free thing pays only if no other thing of its tree is there. In each group some thing pays.
    return _payers_by(("one", tree[1]), group) if paying == () else paying


def _bad_four(web):
    """A paper of four things that show that there is no plan; a web without a tree has such ones."""
    ways = web.conflicts + tuple([(other, one) for one, other in web.conflicts])
    fours = [first + last for first in ways for last in ways]
    papers = [("row", *four) for four in fours if has_shape(web, four, _ROW)]
    return (papers + [("apart", *four) for four in fours if has_shape(web, four, _APART)])[0]


def _are_bills(web, value):
    """Whether the value is a dict from all groups but the empty one to charges of just their things."""
    if not is_for_groups(web, value):
        return False
    return all([isinstance(value[group], Charge) and value[group].things == group for group in value])


def _rises(bills):
    """All triples of a thing, a group and this group with one thing more in which the thing pays more, ascending."""
    found = []
    for group in bills:
        for greater in bills:
            if len(greater) == len(group) + 1 and all([thing in greater for thing in group]):
                found.extend([(thing, group, greater) for thing in group if _pays_less(bills, thing, group, greater)])
    return tuple(sorted(found))


def _pays_less(bills, thing, group, greater):
    """Whether a thing pays less in the one group than in the other one."""
    over, under = bills[group][thing]
    greater_over, greater_under = bills[greater][thing]
    return over * greater_under < greater_over * under
