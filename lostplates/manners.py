"""Manners: what households must be like, who knows where the others live, and which letters are not lost."""

from lostplates.checks import check_name, check_order
from lostplates.errors import InvalidManners
from lostplates.houses import House, is_manner
from lostplates.letters import all_letters, way_of, word_of
from lostplates.logs import check_log, possible_by
from lostplates.ordering import orders


def check_choices(house, choices):
    for index, manner in enumerate(choices):
        if not is_manner(manner, len(house.names), len(house)):
            raise InvalidManners(index)


def with_manner(house, name, manner):
    """A house in which one household has other manners."""
    manners = house.manners
    manners[name] = manner
    return House(house.names, house.plates, manners)


def possible_manners(house, log, name, choices):
    """The indexes of those manners of a household with which an order is possible."""
    check_log(house, log)
    check_name(house, name)
    check_choices(house, choices)
    left = [possible_by(with_manner(house, name, manner), log) for manner in choices]
    return [index for index, some in enumerate(left) if len(some) > 0]


def comes_by_hand(house, order, name, box):
    """Whether a letter is kept after it was handed on."""
    boxes, word = way_of(house, order, name, box)
    return word == "kept" and len(boxes) > 1


def kept_by_hand(house, name):
    """The boxes from which a letter is kept, after it was handed on, in some order that fits."""
    check_name(house, name)
    fitting = list(orders(house))
    boxes = range(len(house))
    return [box for box in boxes if any([comes_by_hand(house, order, name, box) for order in fitting])]


def has_guess(house, name):
    return isinstance(house.manners[name], tuple)


def is_right(house, order, name):
    """Whether a household's guess is right in an order."""
    guess = house.manners[name]
    told = list(zip(house.names, guess, order))
    return all([box is None or box == right or other == name for other, box, right in told])


def trusty(house, order):
    """The names of all households with a guess that is right in an order."""
    check_order(house, order)
    return tuple([name for name in house.names if has_guess(house, name) and is_right(house, order, name)])


def best_informed(house):
    """The household with a guess that is right in the most orders that fit: (count, name), or None."""
    fitting = list(orders(house))
    guessing = [name for name in house.names if has_guess(house, name)]
    best = None
    for name in guessing:
        count = len([order for order in fitting if is_right(house, order, name)])
        if best is None or count > best[0]:
            best = (count, name)
    return best


def ends_in(house, some, letter, words):
    """Whether one of some words tells what becomes of a letter, in each of some orders."""
    name, box = letter
    return all([word_of(house, order, name, box) in words for order in some])


def surely_kept(house, name):
    """The boxes from which a letter is kept in all orders that fit."""
    check_name(house, name)
    fitting = list(orders(house))
    return [box for box in range(len(house)) if ends_in(house, fitting, (name, box), ("kept",))]


def never_lost(house):
    """All letters (name, box) that are kept or come back in all orders that fit."""
    fitting = list(orders(house))
    return [letter for letter in all_letters(house) if ends_in(house, fitting, letter, ("kept", "back"))]
