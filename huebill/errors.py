"""The errors that the package raises."""


class BillError(ValueError):
    """What is told is not of the form that it should have."""


class InvalidName(BillError):
    """No name."""


class InvalidWeb(BillError):
    """No web."""


class InvalidGroup(BillError):
    """No group of the web, or of the charge."""


class InvalidCharge(BillError):
    """No charge, or none of the things that are asked for."""


class InvalidOrder(BillError):
    """No order of the web."""


class InvalidPlan(BillError):
    """No plan of the web, or nothing that tells one."""


class InvalidOperation(BillError):
    """What is asked for cannot be done with this."""


class ParseError(BillError):
    """A text that cannot be read."""

    def __init__(self, index):
        self.index = index


class InvalidNumber(IndexError):
    """No integer of the kind that is asked for."""

    def __init__(self, value):
        self.value = value

    def __str__(self):
        return repr(self.value)


class UnknownName(KeyError):
    """No name of something that is there."""

    def __init__(self, name):
        self.name = name

    def __str__(self):
        return repr(self.name)


class TooMany(OverflowError):
    """More than the limit allows."""

    def __init__(self, limit):
        self.limit = limit


class NothingToUndo(LookupError):
    """Fewer calls to take back, or to do again, than are asked for."""

    def __init__(self, many):
        self.many = many


class Broken(ArithmeticError):
    """A hold that would not be true any more."""

    def __init__(self, label):
        self.label = label


class Spoiled(RuntimeError):
    """A web that is not good, because of a group."""

    def __init__(self, group):
        self.group = group
