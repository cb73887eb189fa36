"""All small webs, what properties webs have, and which webs are alike."""

from huebill.base.numbers import is_integer
from huebill.bills.exact import is_exact
from huebill.bills.exists import has_kept
from huebill.bills.steady import is_steady
from huebill.errors import InvalidNumber, InvalidOperation, TooMany
from huebill.orders.shrinking import is_shrinking
from huebill.plans.plans import has_plan
from huebill.webs.colours import is_enough
from huebill.webs.good import is_good
from huebill.webs.webs import Web, check_names, check_web, has_shape

MAX_SMALL = 5
PROPERTIES = ("enough", "exact", "good", "kept", "planned", "shrinking", "steady")

_NAMES = ("a", "b", "c", "d", "e")


def properties(web):
    """The properties that a web has, ascending."""
    check_web(web)
    return tuple([label for label in PROPERTIES if has_property(web, label)])


def all_webs(names):
    """Yields all webs of these things, by the number of their conflicts and then by these, ascending."""
    check_names(names)
    if len(names) > MAX_SMALL:
        raise TooMany(MAX_SMALL)
    for _, conflicts in _all_conflicts(names):
        yield Web(names, conflicts)


def count_webs(many, label):
    """How many of all webs of so many things have a property."""
    if not is_integer(many) or not 1 <= many <= MAX_SMALL:
        raise InvalidNumber(many)
    if label not in PROPERTIES:
        raise InvalidOperation("no property")
    names = _NAMES[:many]
    return len([web for web in all_webs(names) if has_property(web, label)])


def first_web(names, wanted, lacking):
    """The first web of these things that has all wanted properties and none of those that it shall lack; or None."""
    check_names(names)
    if not _are_properties(wanted) or not _are_properties(lacking):
        raise InvalidOperation("no tuple of properties")
    for web in all_webs(names):
        if _has_all(web, wanted) and not any([has_property(web, label) for label in lacking]):
            return web
    return None


def alike_by(one_web, other_web):
    """A dict from the things of one web to those of the other one that keeps all conflicts; or None."""
    check_web(one_web)
    check_web(other_web)
    if sorted(_degrees(one_web)) != sorted(_degrees(other_web)):
        return None
    images = _images_after(other_web, _degrees(one_web), _places(one_web), ())
    return None if images is None else dict(zip(one_web.things, images))


def is_alike_by(one_web, other_web, value):
    """Whether the value is a dict from the things of one web to those of the other one that keeps all conflicts."""
    check_web(one_web)
    check_web(other_web)
    if not isinstance(value, dict) or not len(value) == len(one_web) == len(other_web):
        return False
    if not all([thing in one_web for thing in value]):
        return False
    return has_shape(other_web, [value[thing] for thing in one_web.things], _places(one_web))


def has_property(web, label):
    """Whether a web has one of the properties."""
    if label == "enough":
        return is_enough(web)
    if label == "exact":
        return is_exact(web)
    if label == "good":
        return is_good(web)
    if label == "kept":
        return has_kept(web)
    if label == "planned":
        return has_plan(web)
    if label == "shrinking":
        return is_shrinking(web)
    return is_good(web) and is_steady(web)


def _has_all(web, labels):
    """Whether a web has all of these properties."""
    return all([has_property(web, label) for label in labels])


def _are_properties(value):
    """Whether the value is a tuple of properties."""
    return isinstance(value, tuple) and all([label in PROPERTIES for label in value])


def _all_conflicts(names):
    """All tuples of conflicts of these things, each behind its length, in the order of the webs."""
    things = sorted(names)
    found = [()]
    for one, other in [(one, other) for one in things for other in things if one < other]:
        found = found + [conflicts + ((one, other),) for conflicts in found]
    return sorted([(len(conflicts), conflicts) for conflicts in found])


def _degrees(web):
    """With how many things each thing is in conflict."""
    return [len(web.beside(thing)) for thing in web.things]


def _places(web):
    """The conflicts as pairs of the places at which the things stand."""
    at = {thing: place for place, thing in enumerate(web.things)}
    return [(at[one], at[other]) for one, other in web.conflicts]


def _images_after(web, degrees, places, images):
    """Things of the web with these degrees, in conflict just at these places, of which the first ones are told."""
    if len(images) == len(web):
        return images
    for thing in web.things:
        if len(web.beside(thing)) == degrees[len(images)] and has_shape(web, images + (thing,), places):
            found = _images_after(web, degrees, places, images + (thing,))
            if found is not None:
                return found
    return None
