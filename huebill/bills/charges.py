"""Charges: what each of some things pays."""

from math import gcd

from huebill.base.numbers import MAX_THINGS, fraction_text, is_integer, is_name, reduced
from huebill.errors import InvalidCharge, InvalidGroup, InvalidNumber, InvalidOperation, TooMany, UnknownName
from huebill.webs.webs import check_group, check_web, is_group_of


class Charge:
    """What each of one to eight things pays, a fraction each. A charge never changes."""

    def __init__(self, pays, *, unit=1):
        if not _are_pays(pays):
            raise InvalidCharge("no dict from one to eight names to integers")
        if not is_integer(unit) or unit < 1:
            raise InvalidNumber(unit)
        shared = _shared_divisor(pays, unit)
        self._things = tuple(sorted(pays))
        self._unit = unit // shared
        self._pays = {thing: pays[thing] // shared for thing in sorted(pays)}

    @property
    def things(self):
        """The things, ascending."""
        return self._things

    @property
    def unit(self):
        """The least integer of at least 1 by which all that is paid becomes whole."""
        return self._unit

    @property
    def pays(self):
        """The dict from the things to what they pay, times the unit."""
        return {thing: self._pays[thing] for thing in self._things}

    @property
    def total(self):
        """What all things pay together, a fraction."""
        return self._sum(self._things)

    def of(self, group):
        """What some things pay together, a fraction."""
        self._check_group(group)
        return self._sum(group)

    def cut(self, group):
        """The charge of some things alone."""
        self._check_group(group)
        if group == ():
            raise InvalidOperation("a charge has at least one thing")
        return charge_over({thing: self._pays[thing] for thing in group}, self._unit)

    def times(self, numerator, denominator=1):
        """The charge by which each thing pays so many times as much."""
        if not is_integer(numerator):
            raise InvalidNumber(numerator)
        if not is_integer(denominator) or denominator < 1:
            raise InvalidNumber(denominator)
        pays = {thing: self._pays[thing] * numerator for thing in self._things}
        return charge_over(pays, self._unit * denominator)

    def mixed(self, other, numerator, denominator):
        """Of this charge the fraction that is told, of the other one the rest to 1."""
        if not self._is_alike(other):
            raise InvalidCharge("no charge of the same things")
        if not is_integer(numerator):
            raise InvalidNumber(numerator)
        if not is_integer(denominator) or denominator < 1:
            raise InvalidNumber(denominator)
        if not 0 <= numerator <= denominator:
            raise InvalidNumber(numerator)
        return _sum_of(self, numerator, other, denominator - numerator, denominator)

    def put_beside(self, other):
        """The charge of the things of both."""
        if not isinstance(other, Charge):
            raise InvalidCharge("no charge")
        if any([thing in self._things for thing in other.things]):
            raise InvalidOperation("both charges have a thing in common")
        if len(self) + len(other) > MAX_THINGS:
            raise TooMany(MAX_THINGS)
        one_pays = {thing: self._pays[thing] * other.unit for thing in self._things}
        other_pays = {thing: paid * self._unit for thing, paid in other.pays.items()}
        return charge_over({**one_pays, **other_pays}, self._unit * other.unit)

    def __add__(self, other):
        if not self._is_alike(other):
            raise InvalidOperation("no charge of the same things")
        return _sum_of(self, 1, other, 1, 1)

    def __sub__(self, other):
        if not self._is_alike(other):
            raise InvalidOperation("no charge of the same things")
        return _sum_of(self, 1, other, -1, 1)

    def __getitem__(self, thing):
        if thing not in self:
            raise UnknownName(thing)
        return reduced(self._pays[thing], self._unit)

    def __contains__(self, value):
        return isinstance(value, str) and value in self._things

    def __len__(self):
        return len(self._things)

    def __iter__(self):
        return iter(self._things)

    def __eq__(self, other):
        return isinstance(other, Charge) and self._unit == other._unit and self._pays == other._pays

    def __str__(self):
        return ", ".join([f"{thing} {fraction_text(self._pays[thing], self._unit)}" for thing in self._things])

    def _is_alike(self, other):
        return isinstance(other, Charge) and self._things == other.things

    def _check_group(self, group):
        if not is_group_of(self._things, group):
            raise InvalidGroup("no ascending tuple of things of the charge")

    def _sum(self, group):
        return reduced(sum([self._pays[thing] for thing in group]), self._unit)


def knot_charge(web, group):
    """The charge of a web by which each thing of a group pays 1, and each other one 0."""
    check_web(web)
    check_group(web, group)
    return Charge({thing: 1 if thing in group else 0 for thing in web.things})


def charge_over(pays, unit):
    """The charge by which each thing pays its integer divided by the unit; the integers can be of any size."""
    charge = Charge({thing: 0 for thing in pays})
    shared = _shared_divisor(pays, unit)
    charge._unit = unit // shared
    charge._pays = {thing: pays[thing] // shared for thing in sorted(pays)}
    return charge


def is_charge_of(web, value):
    """Whether the value is a charge of the web."""
    return isinstance(value, Charge) and value.things == web.things


def check_charge(web, charge):
    """Refuses what is no charge of the web."""
    if not is_charge_of(web, charge):
        raise InvalidCharge("no charge of the web")


def _are_pays(value):
    if not isinstance(value, dict) or not 1 <= len(value) <= MAX_THINGS:
        return False
    return all([is_name(thing) and is_integer(value[thing]) for thing in value])


def _shared_divisor(pays, unit):
    shared = unit
    for thing in pays:
        shared = gcd(shared, pays[thing])
    return shared


def _sum_of(one, one_times, other, other_times, denominator):
    """So many times the one charge and so many times the other one, divided by the denominator."""
    one_pays = one.pays
    other_pays = other.pays
    one_factor = one_times * other.unit
    other_factor = other_times * one.unit
    pays = {thing: one_pays[thing] * one_factor + other_pays[thing] * other_factor for thing in one_pays}
    return charge_over(pays, one.unit * other.unit * denominator)
