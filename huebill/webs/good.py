"""Good webs: each group has a knot with as many things as the group has colours."""

from huebill.errors import Spoiled
from huebill.webs.colours import colours_of_groups, groups, is_for_groups, loose_groups
from huebill.webs.webs import check_group, check_web, has_shape

_RINGS = (5, 7)
_TURNED = 7


def is_good(web):
    """Whether the web is good."""
    return spoiled_group(web) is None


def spoiled_group(web):
    """The first group, by the number of its things and then ascending, without a knot of as many things as colours."""
    paper = _spoiled_paper(web)
    return None if paper is None else tuple(sorted(paper[1]))


def good_paper(web):
    """A knot for each group that shows its colours; or a ring, or turned ring, that shows that the web is not good."""
    paper = _spoiled_paper(web)
    if paper is not None:
        return paper
    knots = _knots_by_size(web)
    return "good", {group: _first_within(knots, group) for group in groups(web)[1:]}


def is_good_paper(web, value):
    """Whether the value is a paper for good webs, or against them."""
    check_web(web)
    if not isinstance(value, tuple) or len(value) != 2:
        return False
    word, shown = value
    if word == "good":
        return _are_good_knots(web, shown)
    return is_spoiled_paper(web, word, shown)


def is_spoiled_paper(web, word, things):
    """Whether the word is `ring`, or `turned`, and the things stand so and show that the web is not good."""
    check_web(web)
    if not isinstance(things, tuple):
        return False
    if word == "ring":
        return len(things) in _RINGS and has_shape(web, things, _ring_places(len(things)))
    return word == "turned" and len(things) == _TURNED and has_shape(web.turned(), things, _ring_places(_TURNED))


def knot_in(web, group):
    """The first greatest knot of the part of a group, ascending; the empty group for the empty one."""
    check_web(web)
    check_group(web, group)
    return _first_within(_knots_by_size(web), group)


def check_good(web):
    """Refuses what is no web, and a web that is not good."""
    group = spoiled_group(web)
    if group is not None:
        raise Spoiled(group)


def _spoiled_paper(web):
    """What shows that the first spoiled group is one, or None in a good web.

    A group that is not good, while all its parts are, is a ring of an odd number of things, at least five, or the
    turned web of one. Turned, a ring of five things is such a ring again.
    """
    found = groups(web)
    turned = web.turned()
    for many in _RINGS:
        for group in [one for one in found if len(one) == many]:
            ring = _ring(web, group)
            if ring is not None:
                return "ring", ring
            ring = _ring(turned, group)
            if ring is not None:
                return "turned", ring
    return None


def _ring(web, group):
    """The things of a group as they stand round a ring, or None if its part is no ring."""
    beside = {thing: [other for other in web.beside(thing) if other in group] for thing in group}
    if any([len(beside[thing]) != 2 for thing in group]):
        return None
    way = [group[0], beside[group[0]][0]]
    while len(way) < len(group):
        one, other = beside[way[-1]]
        way.append(other if one == way[-2] else one)
    return tuple(way) if len(set(way)) == len(group) else None


def _ring_places(many):
    """The pairs of places that are neighbours in a ring of so many things."""
    return [(at, at + 1) for at in range(many - 1)] + [(0, many - 1)]


def _knots_by_size(web):
    """All knots, the greatest ones first, those of one size ascending."""
    knots = [(-len(knot), knot) for knot in loose_groups(web.turned())]
    return [knot for _, knot in sorted(knots)]


def _first_within(knots, group):
    """The first of the knots that has things of the group alone; the empty group if there is none."""
    for knot in knots:
        if all([thing in group for thing in knot]):
            return knot
    return ()


def _are_good_knots(web, value):
    """Whether the value is a dict from all groups, but the empty one, to knots with as many things as colours."""
    if not is_for_groups(web, value):
        return False
    counts = colours_of_groups(web)
    knots = loose_groups(web.turned())
    for group in value:
        knot = value[group]
        if knot not in knots or len(knot) != counts[group] or not all([thing in group for thing in knot]):
            return False
    return True
