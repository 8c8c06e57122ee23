"""Logs: who can live where by the answers of letters, and what became of those letters."""

from math import gcd

from lostplates.checks import check_box, check_name, is_letter, is_number
from lostplates.errors import InvalidLog, NoOrder, UnknownEntry
from lostplates.letters import answer_of, word_of
from lostplates.ordering import orders

MOST_HANDED = 6


def is_entry(house, entry):
    """Whether a value is a tuple (name, box, answer) as in a log."""
    return (
        isinstance(entry, tuple)
        and len(entry) == 3
        and is_letter(house, entry[:2])
        and (entry[2] is None or is_number(entry[2], 0, MOST_HANDED))
    )


def check_log(house, log):
    for index, entry in enumerate(log):
        if not is_entry(house, entry):
            raise InvalidLog(index)


def with_answer(house, some, entry):
    """Those of some orders by which the answer of a letter comes about."""
    name, box, told = entry
    return [order for order in some if answer_of(house, order, name, box) == told]


def possible_by(house, log):
    """What `possible` returns, for a log that is known to be right."""
    left = list(orders(house))
    for entry in log:
        left = with_answer(house, left, entry)
    return left


def possible_orders(house, log):
    """All orders that are possible by a log that is known to be right, one at least."""
    left = possible_by(house, log)
    if len(left) == 0:
        raise NoOrder("no order is possible")
    return left


def possible(house, log):
    """All orders, in tuple order, that fit and by which all answers of a log come about."""
    check_log(house, log)
    return possible_by(house, log)


def surely_behind(house, log):
    """A dict from all names that live behind the same box in all possible orders to this box."""
    check_log(house, log)
    left = possible_orders(house, log)
    first = left[0]
    return {name: first[at] for at, name in enumerate(house.names) if len({order[at] for order in left}) == 1}


def surely_free(house, log):
    """All boxes, ascending, that are nobody's in all possible orders."""
    check_log(house, log)
    left = possible_orders(house, log)
    return [box for box in range(len(house)) if not any([box in order for order in left])]


def first_wrong(house, log):
    """The least number of tuples from the beginning on that are not possible together, or None."""
    check_log(house, log)
    left = list(orders(house))
    for count, entry in enumerate(log):
        if len(left) == 0:
            return count
        left = with_answer(house, left, entry)
    return len(log) if len(left) == 0 else None


def fate(house, log, index):
    """All words, ascending, that tell what became of a letter of the log in some possible order."""
    check_log(house, log)
    if not is_number(index, 0, len(log) - 1):
        raise UnknownEntry("the log has no tuple with this index")
    left = possible_orders(house, log)
    name, box = log[index][:2]
    return sorted({word_of(house, order, name, box) for order in left})


def chance(house, log, name, box):
    """The share of the possible orders in which a household lives behind a box, in lowest terms."""
    check_log(house, log)
    check_name(house, name)
    check_box(house, box)
    left = possible_orders(house, log)
    at = house.names.index(name)
    many = len([order for order in left if order[at] == box])
    shared = gcd(many, len(left))
    return many // shared, len(left) // shared
