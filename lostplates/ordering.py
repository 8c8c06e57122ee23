"""Orders: which household can live behind which box, by the plates alone."""

from itertools import permutations

from lostplates.checks import check_order


def pattern_shows(pattern, name):
    """Whether a name has as many letters as a pattern, the same where it has letters."""
    return len(pattern) == len(name) and all([sign in (".", letter) for sign, letter in zip(pattern, name)])


def plates_agree(house, order):
    """Whether each box with a pattern is that of a household whose name it can show."""
    names = house.names
    for box, plate in enumerate(house.plates):
        if plate != "":
            if box not in order or not pattern_shows(plate, names[order.index(box)]):
                return False
    return True


def all_orders(house):
    """All orders of a house, in tuple order, whether they fit or not."""
    return list(permutations(range(len(house)), len(house.names)))


def orders(house):
    """Yield all orders that fit, in tuple order."""
    for order in all_orders(house):
        if plates_agree(house, order):
            yield order


def order_count(house):
    return len(list(orders(house)))


def could_live(house):
    """A dict from all names to the boxes behind which they live in some order that fits."""
    fitting = list(orders(house))
    return {name: tuple(sorted({order[at] for order in fitting})) for at, name in enumerate(house.names)}


def fits(house, order):
    """Whether an order of the house fits its plates."""
    check_order(house, order)
    return plates_agree(house, order)
