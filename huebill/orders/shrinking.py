"""Shrinking webs: a thing never costs a greater group more."""

from huebill.errors import InvalidOperation
from huebill.webs.colours import colours
from huebill.webs.webs import check_group, check_thing, check_web, has_shape


def cost(web, group, thing):
    """How many colours more a group has with a thing that it does not have: 0 or 1."""
    check_web(web)
    check_group(web, group)
    check_thing(web, thing)
    if thing in group:
        raise InvalidOperation("the group has the thing")
    return colours(web, tuple(sorted(group + (thing,)))) - colours(web, group)


def is_shrinking(web):
    """Whether no thing costs a greater group more than it costs a part of it."""
    return sides(web) is not None


def sides(web):
    """The groups such that two things are in conflict just if they are in different ones, ascending; or None."""
    check_web(web)
    found = tuple(sorted({_apart_from(web, thing) for thing in web.things}))
    # Each thing lies in the group of the things without a conflict with it. If each lies in just one, these are sides.
    return found if sum([len(side) for side in found]) == len(web) else None


def shrinking_paper(web):
    """The sides, or three things that show that the web is not shrinking: just the first two are in conflict."""
    found = sides(web)
    if found is not None:
        return "sides", found
    return ("bond", *_bond(web))


def is_shrinking_paper(web, value):
    """Whether the value is a paper for shrinking webs, or against them."""
    check_web(web)
    if not isinstance(value, tuple) or len(value) == 0:
        return False
    if value[0] == "bond":
        return len(value) == 4 and has_shape(web, value[1:], ((0, 1),))
    if value[0] != "sides" or len(value) != 2 or not isinstance(value[1], tuple):
        return False
    # A web has no two ways to be parted into sides.
    return value[1] == sides(web)


def growing(web):
    """A thing, a group and a greater group that the thing costs more; or None."""
    if is_shrinking(web):
        return None
    one, other, third = _bond(web)
    return one, (third,), tuple(sorted((other, third)))


def _apart_from(web, thing):
    """The things that are in no conflict with a thing, ascending: it is one of them."""
    return tuple([other for other in web.things if not web.are_tied(thing, other)])


def _bond(web):
    """Three things of which just the first two are in conflict; there are such ones."""
    return [(one, other, third) for one, other in web.conflicts for third in web.things
            if has_shape(web, (one, other, third), ((0, 1),))][0]
