"""Houses: the names of the households, the plates of the boxes, and the manners."""

from lostplates.checks import is_box, is_pattern, is_word
from lostplates.errors import InvalidHouse

MOST_NAMES = 6
MOST_BOXES = 6


def are_names(names):
    """Whether a value is an ascending tuple of 1 to 6 different words."""
    return (
        isinstance(names, tuple)
        and 1 <= len(names) <= MOST_NAMES
        and all([is_word(name) for name in names])
        and all([names[at] < names[at + 1] for at in range(len(names) - 1)])
    )


def are_plates(plates, many):
    """Whether a value is a tuple of plates that a house with so many names can have."""
    return (
        isinstance(plates, tuple)
        and many <= len(plates) <= MOST_BOXES
        and all([plate == "" or is_pattern(plate) for plate in plates])
    )


def is_manner(manner, many, boxes):
    """Whether a value can be a household's manners, with so many names and boxes."""
    if isinstance(manner, tuple):
        return len(manner) == many and all([box is None or is_box(box, boxes) for box in manner])
    return manner == "back" or manner == "keep"


def are_manners(manners, names, boxes):
    """Whether a value is a dict with manners for each of the names, and for no others."""
    return (
        isinstance(manners, dict)
        and len(manners) == len(names)
        and all([name in manners for name in names])
        and all([is_manner(manners[name], len(names), boxes) for name in names])
    )


class House:
    """A house with households, boxes that may have plates, and manners."""

    def __init__(self, names, plates, manners):
        if not are_names(names):
            raise InvalidHouse("names")
        if not are_plates(plates, len(names)):
            raise InvalidHouse("plates")
        if not are_manners(manners, names, len(plates)):
            raise InvalidHouse("manners")
        self._names = names
        self._plates = plates
        # A dict of its own, for the caller may modify the one that was passed.
        self._manners = {name: manners[name] for name in names}

    @property
    def names(self):
        return self._names

    @property
    def plates(self):
        return self._plates

    @property
    def manners(self):
        """A new dict, in the order of the names."""
        return dict(self._manners)

    def __len__(self):
        return len(self._plates)

    def __eq__(self, other):
        return (
            isinstance(other, House)
            and self._names == other._names
            and self._plates == other._plates
            and self._manners == other._manners
        )
