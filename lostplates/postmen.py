"""Several postmen: what each one holds possible, what all have in common, and what they learn by what is said."""

from lostplates.checks import check_number, check_order, is_letter
from lostplates.errors import InvalidRows, NoOrder
from lostplates.letters import answer_of
from lostplates.ordering import orders, plates_agree

MOST_POSTMEN = 4


def is_row(house, row):
    return isinstance(row, tuple) and all([is_letter(house, letter) for letter in row])


def check_rows(house, rows):
    if len(rows) == 0:
        raise InvalidRows(0)
    for index, row in enumerate(rows):
        if index >= MOST_POSTMEN or not is_row(house, row):
            raise InvalidRows(index)


def check_fits(house, order):
    if not plates_agree(house, order):
        raise NoOrder("the order does not fit")


def seen_by(house, order, row):
    """The answers that a postman sees in an order."""
    return tuple([answer_of(house, order, name, box) for name, box in row])


def sights_of(house, rows):
    """A dict from all orders that fit, ascending, to what each postman sees in them."""
    return {order: tuple([seen_by(house, order, row) for row in rows]) for order in orders(house)}


def held_possible(house, order, rows, index):
    """All orders that fit and that a postman cannot tell from an order."""
    check_order(house, order)
    check_rows(house, rows)
    check_number(index, 0, len(rows) - 1)
    check_fits(house, order)
    seen = seen_by(house, order, rows[index])
    return [other for other in orders(house) if seen_by(house, other, rows[index]) == seen]


def untold(sights, order):
    """All orders that some postman cannot tell from an order."""
    return [other for other in sights if any([one == two for one, two in zip(sights[order], sights[other])])]


def in_common(house, order, rows):
    """All orders to which one comes from an order by steps that some postman cannot tell."""
    check_order(house, order)
    check_rows(house, rows)
    check_fits(house, order)
    sights = sights_of(house, rows)
    reached = {order: True}
    ready = [order]
    while len(ready) > 0:
        here = ready.pop()
        new = [other for other in untold(sights, here) if other not in reached]
        reached.update({other: True for other in new})
        ready = ready + new
    return sorted(reached)


def counted_sights(sights):
    """For each postman a dict from what it sees to the number of orders in which it does."""
    counts = [{} for _ in list(sights.values())[0]]
    for seen in sights.values():
        for at, told in enumerate(seen):
            counts[at][told] = counts[at].get(told, 0) + 1
    return counts


def said_in(sights):
    """A dict from orders to what the postmen say in them: for each one whether it holds just one order possible."""
    counts = counted_sights(sights)
    return {order: tuple([counts[at][told] == 1 for at, told in enumerate(seen)]) for order, seen in sights.items()}


def spoken(house, order, rows):
    """The rounds until nothing is left out any more, what is said in them, and how many orders are left by it."""
    check_order(house, order)
    check_rows(house, rows)
    check_fits(house, order)
    left = sights_of(house, rows)
    words = ()
    many = 0
    while len(left) != many:
        many = len(left)
        said = said_in(left)
        words = words + (said[order],)
        left = {other: seen for other, seen in left.items() if said[other] == said[order]}
    return len(words) - 1, words, many
