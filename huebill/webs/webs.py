"""Webs: things, some of which are in conflict with one another."""

from huebill.base.numbers import MAX_THINGS, is_integer, is_name
from huebill.errors import InvalidGroup, InvalidName, InvalidNumber, InvalidOperation, InvalidWeb
from huebill.errors import TooMany, UnknownName


class Web:
    """One to eight things with conflicts between some pairs of them. A web never changes."""

    def __init__(self, things, conflicts):
        check_names(things)
        if not _are_conflicts(things, conflicts):
            raise InvalidWeb("the conflicts are no tuple of pairs of two different things")
        self._things = tuple(sorted(things))
        self._conflicts = tuple(sorted({tuple(sorted(pair)) for pair in conflicts}))
        self._beside = {thing: _partners(thing, self._conflicts) for thing in self._things}

    @property
    def things(self):
        """The things, ascending."""
        return self._things

    @property
    def conflicts(self):
        """The conflicts as ascending pairs, ascending."""
        return self._conflicts

    def beside(self, thing):
        """The things with which a thing is in conflict, ascending."""
        check_thing(self, thing)
        return self._beside[thing]

    def are_tied(self, one, other):
        """Whether two things are in conflict."""
        check_thing(self, one)
        check_thing(self, other)
        return other in self._beside[one]

    def with_conflict(self, one, other):
        """The web with one conflict more."""
        if self.are_tied(one, other):
            raise InvalidOperation("these things are in conflict already")
        if one == other:
            raise InvalidOperation("a thing is in no conflict with itself")
        return Web(self._things, self._conflicts + ((one, other),))

    def without_conflict(self, one, other):
        """The web with one conflict less."""
        if not self.are_tied(one, other):
            raise InvalidOperation("these things are in no conflict")
        return Web(self._things, tuple([pair for pair in self._conflicts if pair not in ((one, other), (other, one))]))

    def with_thing(self, name, *, beside=()):
        """The web with one thing more, in conflict with the things of a group."""
        if not is_name(name):
            raise InvalidName("no name for a thing")
        check_group(self, beside)
        if name in self:
            raise InvalidOperation("there is such a thing already")
        if len(self) == MAX_THINGS:
            raise TooMany(MAX_THINGS)
        return Web(self._things + (name,), self._conflicts + tuple([(name, thing) for thing in beside]))

    def without(self, *things):
        """The web without some things."""
        for thing in things:
            check_thing(self, thing)
        # Where no thing would be left, the empty group is refused.
        return self.part(tuple([thing for thing in self._things if thing not in things]))

    def part(self, group):
        """The web of the things of a group, with the conflicts between them."""
        check_group(self, group)
        if group == ():
            raise InvalidOperation("the empty group has no part")
        return Web(group, tuple([(one, other) for one, other in self._conflicts if one in group and other in group]))

    def turned(self):
        """The web of the same things with just the conflicts that this one lacks."""
        pairs = [(one, other) for one in self._things for other in self._things if one < other]
        return Web(self._things, tuple([pair for pair in pairs if pair not in self._conflicts]))

    def renamed(self, names):
        """The web with other names, all exchanged at once."""
        if not isinstance(names, dict):
            raise InvalidOperation("no dict from things to names")
        if not all([thing in self and is_name(names[thing]) for thing in names]):
            raise InvalidOperation("not all are things with names for them")
        told = {thing: names.get(thing, thing) for thing in self._things}
        if len(set(list(told.values()))) < len(self):
            raise InvalidOperation("two things would have one name")
        things = tuple([told[thing] for thing in self._things])
        return Web(things, tuple([(told[one], told[other]) for one, other in self._conflicts]))

    def __invert__(self):
        return self.turned()

    def __contains__(self, value):
        return isinstance(value, str) and value in self._things

    def __len__(self):
        return len(self._things)

    def __iter__(self):
        return iter(self._things)

    def __eq__(self, other):
        return isinstance(other, Web) and self._things == other._things and self._conflicts == other._conflicts

    def __str__(self):
        return f"web of {' '.join(self._things)}: {_conflicts_text(self._conflicts)}"


def round_web(names, *steps):
    """The web of things round a ring, in which the things are in conflict from which a step leads to one another."""
    check_names(names)
    for step in steps:
        if not is_integer(step) or not 1 <= step < MAX_THINGS:
            raise InvalidNumber(step)
    many = len(names)
    ways = [(at, (at + step) % many) for step in steps for at in range(many)]
    return Web(names, tuple([(names[start], names[end]) for start, end in ways if start != end]))


def row_web(names):
    """The web of things in a row, in which neighbours are in conflict."""
    check_names(names)
    return Web(names, tuple(zip(names, names[1:])))


def is_group_of(things, value):
    """Whether the value is an ascending tuple of some of the things, perhaps of none."""
    if not isinstance(value, tuple):
        return False
    if not all([isinstance(thing, str) and thing in things for thing in value]):
        return False
    return all([one < other for one, other in zip(value, value[1:])])


def has_shape(web, things, places):
    """Whether these are different things of the web, in conflict just where a pair of places is told."""
    if not all([thing in web for thing in things]) or len(set(things)) < len(things):
        return False
    pairs = [(low, high) for high in range(len(things)) for low in range(high)]
    return all([web.are_tied(things[low], things[high]) == ((low, high) in places) for low, high in pairs])


def check_web(web):
    """Refuses what is no web."""
    if not isinstance(web, Web):
        raise InvalidWeb("no web")


def check_thing(web, thing):
    """Refuses what is no thing of the web."""
    if thing not in web:
        raise UnknownName(thing)


def check_group(web, group):
    """Refuses what is no group of the web."""
    if not is_group_of(web.things, group):
        raise InvalidGroup("no group of the web")


def check_names(names):
    """Refuses what is no tuple of one to eight different names."""
    if not isinstance(names, tuple) or not 1 <= len(names) <= MAX_THINGS:
        raise InvalidWeb("no tuple of one to eight things")
    if not all([is_name(name) for name in names]):
        raise InvalidWeb("not all things are names")
    if len(set(names)) < len(names):
        raise InvalidWeb("not all names are different")


def _are_conflicts(things, value):
    return isinstance(value, tuple) and all([_is_conflict(things, pair) for pair in value])


def _is_conflict(things, value):
    if not isinstance(value, tuple) or len(value) != 2:
        return False
    return all([isinstance(thing, str) and thing in things for thing in value]) and value[0] != value[1]


def _partners(thing, conflicts):
    return tuple(sorted([other if one == thing else one for one, other in conflicts if thing in (one, other)]))


def _conflicts_text(conflicts):
    if conflicts == ():
        return "-"
    return " ".join([f"{one}-{other}" for one, other in conflicts])
