"""Bags of letters that are put in boxes at once, so that each one is kept in the end."""

from lostplates.checks import check_number, check_order
from lostplates.errors import InvalidBag
from lostplates.letters import way_of
from lostplates.logs import check_log, possible_orders

MOST_IN_BAG = 6
MOST_IN_BOX = 6


def check_bag(house, bag):
    for index, name in enumerate(bag):
        if index >= MOST_IN_BAG or name not in house.names:
            raise InvalidBag(index)


def kept_from(house, some, name):
    """A dict from the boxes from which a letter is kept in all of some orders to how often it is handed on in each."""
    found = {}
    for box in range(len(house)):
        ways = [way_of(house, order, name, box) for order in some]
        if all([word == "kept" for _, word in ways]):
            found[box] = tuple([len(boxes) - 1 for boxes, _ in ways])
    return found


def with_letter(deliveries, handed_from, most):
    """Deliveries with one letter more, put in each of the boxes from which it is kept."""
    found = {}
    for (counts, handed), boxes in deliveries.items():
        for box, times in handed_from.items():
            if counts[box] < most:
                later = counts[:box] + (counts[box] + 1,) + counts[box + 1:]
                total = tuple([one + other for one, other in zip(handed, times)])
                # Boxes come in tuple order, so the first ones for a key are the least.
                found.setdefault((later, total), boxes + (box,))
    return found


def best_in_worst(house, some, bag, most):
    """The boxes by which a bag is handed on least often in the worst of some orders: (handed, boxes), or None."""
    # What comes behind depends only on how many letters are in each box, and how often they are handed on in each
    # order: a dict from these to the least boxes that lead there.
    deliveries = {((0,) * len(house), (0,) * len(some)): ()}
    for name in bag:
        deliveries = with_letter(deliveries, kept_from(house, some, name), most)
    return min([(max(handed), boxes) for (_, handed), boxes in deliveries.items()], default=None)


def best_delivery(house, order, bag, most):
    """How often letters are handed on in all, as few times as can be, and the boxes; None if it cannot be done."""
    check_order(house, order)
    check_bag(house, bag)
    check_number(most, 1, MOST_IN_BOX)
    return best_in_worst(house, [order], bag, most)


def sure_delivery(house, log, bag, most):
    """How often letters are handed on in the worst possible order, and the boxes; None if it cannot be done."""
    check_log(house, log)
    check_bag(house, bag)
    check_number(most, 1, MOST_IN_BOX)
    return best_in_worst(house, possible_orders(house, log), bag, most)
