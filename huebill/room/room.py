"""A room: a web that changes, under holds that stay true."""

from huebill.base.numbers import MAX_THINGS, is_integer, is_name
from huebill.bills.kept import is_kept
from huebill.errors import Broken, InvalidName, InvalidNumber, InvalidOperation, NothingToUndo, TooMany, UnknownName
from huebill.orders.orders import order_bill
from huebill.plans.plans import bills_along, tree
from huebill.small.small import has_property
from huebill.webs.colours import colours, is_loose
from huebill.webs.webs import check_web

MAX_HOLDS = 8
HOLD_WORDS = ("enough", "exact", "good", "kept", "planned", "shrinking", "steady")


class State:
    """The web, the order of coming and the holds of a room at one time. A state never changes."""

    def __init__(self, own_web, order, rules):
        self.own_web = own_web
        self.order = order
        self.rules = {label: rules[label] for label in sorted(rules)}


class Mark:
    """How a room was when a block was entered, and the mark of the block around, or None."""

    def __init__(self, now, past, ahead, outer):
        self.now = now
        self.past = past
        self.ahead = ahead
        self.outer = outer


class Trial:
    """Blocks behind which a room is as it was when they were entered."""

    def __init__(self, room):
        self._room = room
        self._mark = None

    def __enter__(self):
        room = self._room
        self._mark = Mark(room._now, room._past, room._ahead, self._mark)
        return room

    def __exit__(self, kind, value, trace):
        room = self._room
        room._now = self._mark.now
        room._past = self._mark.past
        room._ahead = self._mark.ahead
        self._mark = self._mark.outer


class Room:
    """A web that changes; its things stand in the order of coming."""

    def __init__(self, web):
        check_web(web)
        self._now = State(web, web.things, {})
        # The states that can be taken back, and those that can be done again.
        self._past = ()
        self._ahead = ()

    @property
    def web(self):
        """The web as it is now."""
        return self._now.own_web

    @property
    def things(self):
        """The things in the order of coming."""
        return self._now.order

    @property
    def labels(self):
        """The labels of the holds, ascending."""
        return tuple(self._now.rules)

    @property
    def holds(self):
        """The dict from the labels to the holds."""
        return dict(self._now.rules)

    def come(self, name, *, beside=()):
        """A thing comes, in conflict with the things of a group."""
        self._become(self.web.with_thing(name, beside=beside), self.things + (name,))

    def go(self, *things):
        """Some things go."""
        web = self.web.without(*things)
        self._become(web, tuple([thing for thing in self.things if thing in web]))

    def tie(self, one, other):
        """A conflict is made."""
        self._become(self.web.with_conflict(one, other), self.things)

    def untie(self, one, other):
        """A conflict is unmade."""
        self._become(self.web.without_conflict(one, other), self.things)

    def turn(self):
        """The web is turned."""
        self._become(self.web.turned(), self.things)

    def hold(self, label, hold):
        """A new hold under a label."""
        if not is_name(label):
            raise InvalidName("no name for a label")
        if not is_hold(hold):
            raise InvalidOperation("no hold")
        holds = self.holds
        if label in holds:
            raise InvalidOperation("there is such a label already")
        if len(holds) == MAX_HOLDS:
            raise TooMany(MAX_HOLDS)
        if not _is_true_of(self.web, hold):
            raise Broken(label)
        holds[label] = hold
        self._step(State(self.web, self.things, holds))

    def release(self, label):
        """The room goes on without a hold."""
        if label not in self.labels:
            raise UnknownName(label)
        holds = self.holds
        del holds[label]
        self._step(State(self.web, self.things, holds))

    def would_break(self, web):
        """The labels of the holds that are not true of another web, ascending."""
        check_web(web)
        holds = self.holds
        return tuple([label for label in holds if not _is_true_of(web, holds[label])])

    def order_bill(self):
        """The order bill of the order of coming."""
        return order_bill(self.web, self.things)

    def along(self):
        """Charges along the room."""
        found = tree(self.web)
        if found is None:
            raise InvalidOperation("the web has no plan")
        return bills_along(self.web, found, self.things)

    def undo(self, *, many=1):
        """Takes back so many calls; returns how many can then be taken back."""
        _check_many(many, self._past)
        line = self._past + (self._now,)
        left = len(self._past) - many
        self._past = line[:left]
        self._now = line[left]
        self._ahead = line[left + 1:] + self._ahead
        return left

    def redo(self, *, many=1):
        """Does so many calls again; returns how many can then be taken back."""
        _check_many(many, self._ahead)
        line = (self._now,) + self._ahead
        self._past = self._past + line[:many]
        self._now = line[many]
        self._ahead = line[many + 1:]
        return len(self._past)

    def trial(self):
        """What leads a block, behind which the room is as it was when the block was entered."""
        return Trial(self)

    def during(self, call):
        """What a call with this room returns, out of a block of a trial."""
        with self.trial() as same:
            return call(same)

    def twin(self):
        """An equal room that goes on by itself."""
        room = Room(self.web)
        room._now = self._now
        room._past = self._past
        room._ahead = self._ahead
        return room

    def __contains__(self, value):
        return isinstance(value, str) and value in self._now.order

    def __len__(self):
        return len(self._now.order)

    def __iter__(self):
        return iter(self._now.order)

    def __eq__(self, other):
        if not isinstance(other, Room):
            return False
        return self.web == other.web and self.things == other.things and self.holds == other.holds

    def __str__(self):
        return f"room of {' '.join(self._now.order)}: {len(self._now.rules)} holds"

    def _become(self, web, order):
        """Goes on with another web and order, if all holds are true of the web."""
        broken = self.would_break(web)
        if len(broken) > 0:
            raise Broken(broken[0])
        self._step(State(web, order, self._now.rules))

    def _step(self, state):
        """Goes on with another state, behind which nothing can be done again."""
        self._past = self._past + (self._now,)
        self._now = state
        self._ahead = ()


def is_hold(value):
    """Whether the value is a hold."""
    if isinstance(value, str):
        return value in HOLD_WORDS
    if not isinstance(value, tuple) or len(value) != 2:
        return False
    word, told = value
    if word == "colours":
        return is_integer(told) and 1 <= told <= MAX_THINGS
    return word == "loose" and _are_ascending_names(told)


def is_along(room, value):
    """Whether the value is a tuple of charges along the room."""
    check_room(room)
    if not isinstance(value, tuple) or len(value) != len(room):
        return False
    order = room.things
    for at, charge in enumerate(value):
        part = room.web.part(tuple(sorted(order[:at + 1])))
        if not is_kept(part, charge) or (at > 0 and not _is_below(charge, value[at - 1])):
            return False
    return True


def check_room(room):
    """Refuses what is no room."""
    if not isinstance(room, Room):
        raise InvalidOperation("no room")


def room_with(web, order, holds):
    """The room of a web with its things in this order, and pairs of a label and a hold; nothing can be taken back.

    Raises the errors of `hold` for these pairs.
    """
    room = Room(web)
    for label, hold in holds:
        room.hold(label, hold)
    room._now = State(web, order, room.holds)
    room._past = ()
    return room


def _are_ascending_names(value):
    """Whether the value is an ascending tuple of names."""
    if not isinstance(value, tuple) or not all([is_name(name) for name in value]):
        return False
    return all([one < other for one, other in zip(value, value[1:])])


def _is_true_of(web, hold):
    """Whether a hold is true of a web."""
    if isinstance(hold, str):
        return has_property(web, hold)
    word, told = hold
    if word == "colours":
        return colours(web) <= told
    return is_loose(web, tuple([thing for thing in web.things if thing in told]))


def _is_below(charge, other):
    """Whether no thing pays more by the charge than by the other one, which has some of its things."""
    return min(list((other - charge.cut(other.things)).pays.values())) >= 0


def _check_many(many, states):
    """Refuses what is no number of states that are there."""
    if not is_integer(many) or many < 0:
        raise InvalidNumber(many)
    if many > len(states):
        raise NothingToUndo(many)
