"""The code of a house: a list of small integers with a checksum at its end."""

from lostplates.checks import is_number
from lostplates.errors import DecodeError
from lostplates.houses import MOST_BOXES, MOST_NAMES, House

FIRST_ITEM = 66
# The place of a sign in this text is the item for it.
SIGNS = ".abcdefghijklmnopqrstuvwxyz"
MOST_SIGNS = 8
BACK = 0
KEEP = 1
GUESS = 2
NO_BOX = 6


def text_items(text):
    """The items for a plate or a name: the number of its signs, and these."""
    return [len(text)] + [SIGNS.index(sign) for sign in text]


def manner_items(manner):
    if isinstance(manner, tuple):
        return [GUESS] + [NO_BOX if box is None else box for box in manner]
    return [BACK] if manner == "back" else [KEEP]


def checksum_of(items):
    checksum = 9
    for item in items:
        checksum = (21 * checksum + item) % 241
    return checksum


def encode_house(house):
    """The code of a house."""
    items = [FIRST_ITEM, len(house)]
    for plate in house.plates:
        items = items + text_items(plate)
    items = items + [len(house.names)]
    for name in house.names:
        items = items + text_items(name)
    for manner in house.manners.values():
        items = items + manner_items(manner)
    return items + [checksum_of(items)]


class Reader:
    """Takes the items of a code, one after another."""

    def __init__(self, values):
        self._values = values
        self._at = 0

    def take(self, least, most):
        """The next item, which is an integer within limits."""
        if self._at == len(self._values) or not is_number(self._values[self._at], least, most):
            raise DecodeError(self._at)
        self._at += 1
        return self._values[self._at - 1]

    def take_text(self, fewest, least):
        """The next plate or name, of so many signs at least, with no items below a limit."""
        many = self.take(fewest, MOST_SIGNS)
        return "".join([SIGNS[self.take(least, len(SIGNS) - 1)] for _ in range(many)])

    def take_manner(self, many):
        """The manners of the next household, in a house with so many names."""
        kind = self.take(BACK, GUESS)
        if kind == GUESS:
            boxes = [self.take(0, NO_BOX) for _ in range(many)]
            return tuple([None if box == NO_BOX else box for box in boxes])
        return "back" if kind == BACK else "keep"

    def take_end(self):
        """The checksum, with no item after it."""
        checksum = checksum_of(self._values[:self._at])
        self.take(checksum, checksum)
        if self._at < len(self._values):
            raise DecodeError(self._at)


def decode_house(values):
    """The house of a code."""
    reader = Reader(values)
    reader.take(FIRST_ITEM, FIRST_ITEM)
    boxes = reader.take(1, MOST_BOXES)
    plates = tuple([reader.take_text(0, 0) for _ in range(boxes)])
    many = reader.take(1, MOST_NAMES)
    names = tuple([reader.take_text(1, 1) for _ in range(many)])
    manners = {name: reader.take_manner(many) for name in names}
    reader.take_end()
    return House(names, plates, manners)
