"""What several modules ask of the values that they are passed."""

from lostplates.errors import InvalidOrder

LETTERS = "abcdefghijklmnopqrstuvwxyz"
PATTERN_SIGNS = "abcdefghijklmnopqrstuvwxyz."
LONGEST_WORD = 8


def consists_of(text, signs):
    """Whether a value is a text of one to eight of the signs."""
    return (
        isinstance(text, str)
        and 1 <= len(text) <= LONGEST_WORD
        and all([sign in signs for sign in text])
    )


def is_word(text):
    return consists_of(text, LETTERS)


def is_pattern(text):
    return consists_of(text, PATTERN_SIGNS)


def is_box(box, boxes):
    """Whether a value is a box of a house with so many boxes."""
    # Python counts True and False among the integers, the document does not.
    return isinstance(box, int) and not isinstance(box, bool) and 0 <= box < boxes


def is_order(house, order):
    return (
        isinstance(order, tuple)
        and len(order) == len(house.names)
        and all([is_box(box, len(house)) for box in order])
        and len(set(order)) == len(order)
    )


def check_order(house, order):
    if not is_order(house, order):
        raise InvalidOrder("this is no order of the house")
