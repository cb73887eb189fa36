"""Webs laid beside and over one another, and what webs fall into."""

from huebill.base.numbers import MAX_THINGS
from huebill.errors import InvalidOperation, TooMany
from huebill.webs.webs import Web, check_web


def laid_beside(one_web, other_web):
    """The web of the things of both, without conflicts between the things of the one and those of the other."""
    check_web(one_web)
    check_web(other_web)
    if any([thing in other_web for thing in one_web.things]):
        raise InvalidOperation("both webs have a thing in common")
    if len(one_web) + len(other_web) > MAX_THINGS:
        raise TooMany(MAX_THINGS)
    return Web(one_web.things + other_web.things, one_web.conflicts + other_web.conflicts)


def laid_over(one_web, other_web):
    """The web of the things of both, each thing of the one in conflict with each thing of the other."""
    check_web(one_web)
    check_web(other_web)
    return laid_beside(one_web.turned(), other_web.turned()).turned()


def pieces(web):
    """The least groups such that no two things of unlike ones are in conflict, ascending."""
    check_web(web)
    return tuple(sorted({_piece_with(web, thing) for thing in web.things}))


def layers(web):
    """The least groups such that all things of unlike ones are in conflict, ascending."""
    check_web(web)
    return pieces(web.turned())


def _piece_with(web, thing):
    """The piece that has a thing."""
    piece = (thing,)
    for _ in web.things:
        piece = tuple([one for one in web.things if one in piece or any([web.are_tied(one, other) for other in piece])])
    return piece
