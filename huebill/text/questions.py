"""The questions of the shell about its room."""

from huebill.base.numbers import fraction_text
from huebill.bills.even import floor_paper, greatest_floor, height_paper, least_height
from huebill.bills.exact import exact_paper, lift, wide_paper
from huebill.bills.exists import kept_bill, kept_paper, parts_number, parts_paper
from huebill.bills.kept import is_bill, is_kept, is_within, worst
from huebill.bills.mixtures import fixing_group, pay_range
from huebill.bills.steady import is_beaten, steady_paper
from huebill.errors import ParseError
from huebill.orders.orders import count_paying, is_kind, mean_bill, payers
from huebill.orders.shrinking import shrinking_paper, sides
from huebill.plans.plans import plan_paper
from huebill.small.small import properties
from huebill.text.commands import check_number
from huebill.text.formats import read_charge, write_value
from huebill.text.rooms import write_room
from huebill.webs.colours import colours, greatest_knots
from huebill.webs.good import good_paper
from huebill.webs.joined import layers, pieces


def _things(room, names):
    return _names_text(room.things)


def _labels(room, names):
    return _names_text(room.labels)


def _show(room, names):
    return write_room(room)


def _order(room, names):
    return str(room.order_bill())


def _properties(room, names):
    return _names_text(properties(room.web))


def _colours(room, names):
    return str(colours(room.web) if names == () else colours(room.web, names))


def _knots(room, names):
    return _groups_text(greatest_knots(room.web))


def _pieces(room, names):
    return _groups_text(pieces(room.web))


def _layers(room, names):
    return _groups_text(layers(room.web))


def _sides(room, names):
    found = sides(room.web)
    return "none" if found is None else _groups_text(found)


def _parts(room, names):
    return _fraction_text(parts_number(room.web))


def _height(room, names):
    return _fraction_text(least_height(room.web))


def _floor(room, names):
    return _fraction_text(greatest_floor(room.web))


def _range(room, names):
    least, most = pay_range(room.web, names)
    return f"{least} {most}"


def _fixing(room, names):
    return _names_text(fixing_group(room.web))


def _payers(room, names):
    return _names_text(payers(room.web, names))


def _kind(room, names):
    return _yes_or_no(is_kind(room.web, names))


def _paying(room, names):
    return str(count_paying(room.web, names))


def _mean(room, names):
    return str(mean_bill(room.web))


def _worst(room, names):
    over, group = worst(room.web, _charge_of(names))
    return f"{_fraction_text(over)} {_names_text(group)}"


def _is(room, names):
    charge = _charge_of(names)
    judged = (("within", is_within(room.web, charge)), ("bill", is_bill(room.web, charge)),
              ("kept", is_kept(room.web, charge)))
    return _names_text([word for word, is_true in judged if is_true])


def _beaten(room, names):
    return _yes_or_no(is_beaten(room.web, _charge_of(names)))


def _lifted(room, names):
    return _yes_or_no(lift(room.web, _charge_of(names)) is not None)


def _bill(room, names):
    return write_value(kept_bill(room.web))


def _along(room, names):
    return write_value(room.along())


def _paper(room, names):
    papers = {
        "good": good_paper, "kept": kept_paper, "parts": parts_paper, "shrinking": shrinking_paper, "plan": plan_paper,
        "exact": exact_paper, "wide": wide_paper, "steady": steady_paper, "height": height_paper, "floor": floor_paper,
    }
    if names[0] not in papers:
        raise ParseError(0)
    call = papers[names[0]]
    return write_value(call(room.web))


# For each question the least and the greatest number of words behind it, None if there is none, and what answers it.
_QUESTIONS = {
    "things": (0, 0, _things), "labels": (0, 0, _labels), "show": (0, 0, _show), "order": (0, 0, _order),
    "properties": (0, 0, _properties), "colours": (0, None, _colours), "knots": (0, 0, _knots),
    "pieces": (0, 0, _pieces), "layers": (0, 0, _layers), "sides": (0, 0, _sides), "parts": (0, 0, _parts),
    "height": (0, 0, _height), "floor": (0, 0, _floor), "range": (0, None, _range), "fixing": (0, 0, _fixing),
    "payers": (1, 8, _payers), "kind": (1, 8, _kind), "paying": (0, None, _paying), "mean": (0, 0, _mean),
    "worst": (1, None, _worst), "is": (1, None, _is), "beaten": (1, None, _beaten), "lifted": (1, None, _lifted),
    "bill": (0, 0, _bill), "along": (0, 0, _along), "paper": (1, 1, _paper),
}


def answer_question(room, word, names):
    """The answer to the question of a word and the words behind it; ParseError(0) if this is none."""
    if word not in _QUESTIONS:
        raise ParseError(0)
    least, most, call = _QUESTIONS[word]
    check_number(names, least, most)
    return call(room, names)


def _charge_of(words):
    """The charge whose text stands in one line."""
    return read_charge(" ".join(words).replace("; ", "\n"))


def _names_text(names):
    """Names with blanks between, or a word for no names."""
    return "none" if len(names) == 0 else " ".join(names)


def _groups_text(groups):
    """Groups with commas between."""
    return ", ".join([_names_text(group) for group in groups])


def _fraction_text(fraction):
    """A fraction like `1/2`, or like `3` if it is whole."""
    over, under = fraction
    return fraction_text(over, under)


def _yes_or_no(is_true):
    return "yes" if is_true else "no"
