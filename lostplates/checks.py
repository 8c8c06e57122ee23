"""What several modules ask of the values that they are passed."""

from lostplates.errors import InvalidBox, InvalidNumber, InvalidOrder, UnknownName

LETTERS = "abcdefghijklmnopqrstuvwxyz"
PATTERN_SIGNS = "abcdefghijklmnopqrstuvwxyz."
LONGEST_WORD = 8


def consists_of(text, signs):
    """Whether a value is a text of one to eight of the signs."""
    return (
        isinstance(text, str)
        and 1 <= len(text) <= LONGEST_WORD
        and all([sign in signs for sign in text])
    )


def is_word(text):
    return consists_of(text, LETTERS)


def is_pattern(text):
    return consists_of(text, PATTERN_SIGNS)


def is_number(number, least, most):
    """Whether a value is an integer within limits."""
    # Python counts True and False among the integers, the document does not.
    return isinstance(number, int) and not isinstance(number, bool) and least <= number <= most


def is_box(box, boxes):
    """Whether a value is a box of a house with so many boxes."""
    return is_number(box, 0, boxes - 1)


def is_letter(house, letter):
    """Whether a value is a letter: a tuple of a name and a box of the house."""
    return (
        isinstance(letter, tuple)
        and len(letter) == 2
        and letter[0] in house.names
        and is_box(letter[1], len(house))
    )


def are_two_names(house, pair):
    """Whether a tuple is one of two different names of the house."""
    return (
        len(pair) == 2
        and pair[0] in house.names
        and pair[1] in house.names
        and pair[0] != pair[1]
    )


def is_order(house, order):
    return (
        isinstance(order, tuple)
        and len(order) == len(house.names)
        and all([is_box(box, len(house)) for box in order])
        and len(set(order)) == len(order)
    )


def check_order(house, order):
    if not is_order(house, order):
        raise InvalidOrder("this is no order of the house")


def check_name(house, name):
    if name not in house.names:
        raise UnknownName("no household of the house has this name")


def check_box(house, box):
    if not is_box(box, len(house)):
        raise InvalidBox("the house has no such box")


def check_number(number, least, most):
    if not is_number(number, least, most):
        raise InvalidNumber("the number is out of its range")
