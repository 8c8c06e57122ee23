"""Tables: what becomes of all letters in an order, and who lives behind which door."""

from lostplates.checks import check_order
from lostplates.letters import word_of
from lostplates.notation import plate_word

SIGNS = {"kept": "k", "lies": "-", "back": "<", "round": "@"}


def sign_of(house, order, name, box):
    """A sign for what becomes of a letter, another one for the household's own box."""
    if order[house.names.index(name)] == box:
        return "o"
    return SIGNS[word_of(house, order, name, box)]


def table(house, order):
    """A text with a row for each name: what becomes of letters for it, box by box."""
    check_order(house, order)
    boxes = range(len(house))
    rows = [[name] + [sign_of(house, order, name, box) for box in boxes] for name in house.names]
    return "\n".join([" ".join(row) for row in rows])


def name_behind(house, order, box):
    return house.names[order.index(box)] if box in order else "-"


def doors(house, order):
    """A text with a row for each box: its number, its plate, and the household behind it."""
    check_order(house, order)
    plates = list(enumerate(house.plates))
    return "\n".join([f"{box}: {plate_word(plate)} {name_behind(house, order, box)}" for box, plate in plates])
