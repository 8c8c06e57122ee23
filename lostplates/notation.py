"""The text of a house: a row for the plates, and a row for each household."""

from lostplates.checks import is_pattern, is_word
from lostplates.errors import InvalidText
from lostplates.houses import MOST_BOXES, MOST_NAMES, House

FIRST_WORDS = ("back", "keep", "guess")
BOX_WORDS = ("-", "0", "1", "2", "3", "4", "5", "6", "7", "8", "9")


def plate_word(plate):
    return "-" if plate == "" else plate


def box_word(box):
    return "-" if box is None else str(box)


def household_row(name, manner):
    if isinstance(manner, tuple):
        return " ".join(["guess", name] + [box_word(box) for box in manner])
    return f"{manner} {name}"


def format_house(house):
    """The text of a house."""
    first = " ".join(["plates"] + [plate_word(plate) for plate in house.plates])
    return "\n".join([first] + [household_row(name, manner) for name, manner in house.manners.items()])


def wrong_in_plates(words):
    """The index of the first word in the row of the plates that is wrong, superfluous or missing, or None."""
    if words[0] != "plates":
        return 0
    for at in range(1, len(words)):
        if at > MOST_BOXES or not (words[at] == "-" or is_pattern(words[at])):
            return at
    return 1 if len(words) == 1 else None


def wrong_in_household(words, before, many):
    """The same in the row of a household, behind that of another name, in a text with so many of these rows."""
    if words[0] not in FIRST_WORDS:
        return 0
    wanted = 2 + many if words[0] == "guess" else 2
    for at in range(1, len(words)):
        right = words[at] in BOX_WORDS if at > 1 else is_word(words[at]) and words[at] > before
        if at >= wanted or not right:
            return at
    return len(words) if len(words) < wanted else None


def check_words(rows):
    """Check a text, a list with the list of the words of each row, row by row."""
    wrong = wrong_in_plates(rows[0])
    if wrong is not None:
        raise InvalidText(0, wrong)
    if len(rows) == 1:
        raise InvalidText(1, 0)
    # Every word is greater than the empty text.
    before = ""
    for row in range(1, len(rows)):
        wrong = 0 if row > MOST_NAMES else wrong_in_household(rows[row], before, len(rows) - 1)
        if wrong is not None:
            raise InvalidText(row, wrong)
        before = rows[row][1]


def read_manner(words):
    """The manners that the words of a household's row tell."""
    if words[0] == "guess":
        return tuple([None if word == "-" else int(word) for word in words[2:]])
    return words[0]


def parse_house(text):
    """The house of a text."""
    rows = [row.split(" ") for row in text.split("\n")]
    check_words(rows)
    plates = tuple(["" if word == "-" else word for word in rows[0][1:]])
    names = tuple([words[1] for words in rows[1:]])
    return House(names, plates, {words[1]: read_manner(words) for words in rows[1:]})
