"""Letters: where they go, what becomes of them, and what the postman sees of it."""

from lostplates.checks import check_box, check_name, check_order
from lostplates.ordering import orders


def all_letters(house):
    """All letters (name, box) that can be put, by name, then by box."""
    return [(name, box) for name in house.names for box in range(len(house))]


def way_of(house, order, name, box):
    """What `way` returns, for what is known to be right."""
    names = house.names
    manners = house.manners
    at = names.index(name)
    boxes = (box,)
    while True:
        here = boxes[-1]
        if here == order[at]:
            return boxes, "kept"
        if here not in order:
            return boxes, "lies"
        manner = manners[names[order.index(here)]]
        if manner == "keep":
            return boxes, "lies"
        if manner == "back" or manner[at] is None or manner[at] == here:
            return boxes, "back"
        if manner[at] in boxes:
            return boxes, "round"
        boxes = boxes + (manner[at],)


def word_of(house, order, name, box):
    """What becomes of a letter in the end."""
    return way_of(house, order, name, box)[1]


def answer_of(house, order, name, box):
    """What `answer` returns, for what is known to be right."""
    boxes, word = way_of(house, order, name, box)
    return len(boxes) - 1 if word == "back" else None


def check_put(house, order, name, box):
    check_order(house, order)
    check_name(house, name)
    check_box(house, box)


def way(house, order, name, box):
    """A tuple of all boxes into which a letter comes, and of what becomes of it."""
    check_put(house, order, name, box)
    return way_of(house, order, name, box)


def answer(house, order, name, box):
    """How many times a letter was handed on before it came back, None if it does not."""
    check_put(house, order, name, box)
    return answer_of(house, order, name, box)


def answers(house, name, box):
    """All answers of a letter in some order that fits, ascending, None behind the numbers."""
    check_name(house, name)
    check_box(house, box)
    told = [answer_of(house, order, name, box) for order in orders(house)]
    numbers = sorted({number for number in told if number is not None})
    return numbers + [None] if None in told else numbers


def longest(house):
    """A letter that is handed on most often in an order that fits: (handed, name, box, order), or None."""
    fitting = list(orders(house))
    best = None
    for name, box in all_letters(house):
        for order in fitting:
            handed = len(way_of(house, order, name, box)[0]) - 1
            if best is None or handed > best[0]:
                best = (handed, name, box, order)
    return best
