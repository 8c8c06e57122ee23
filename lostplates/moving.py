"""Households that move: where they can live at the end of events, and where at the beginning."""

from itertools import combinations

from lostplates.checks import are_two_names, check_name, check_number
from lostplates.errors import InvalidEvent, NoOrder
from lostplates.logs import check_log, is_entry, with_answer
from lostplates.ordering import all_orders, orders, plates_agree

MOST_EXCHANGES = 3


def is_event(house, event):
    if not isinstance(event, tuple) or len(event) == 0:
        return False
    word = event[0]
    if word == "letter":
        return is_entry(house, event[1:])
    if word == "swap":
        return are_two_names(house, event[1:])
    if word == "move":
        return len(event) == 2 and event[1] in house.names
    return (word == "swaps" or word == "moves") and len(event) == 1


def check_events(house, events):
    for index, event in enumerate(events):
        if not is_event(house, event):
            raise InvalidEvent(index)


def exchanged(order, one, other):
    """An order in which the households at two places have exchanged their boxes."""
    boxes = list(order)
    boxes[one], boxes[other] = order[other], order[one]
    return tuple(boxes)


def all_exchanged(order):
    """All orders that an exchange of two households makes of an order."""
    return [exchanged(order, one, other) for one, other in combinations(range(len(order)), 2)]


def all_moved(house, order, at):
    """All orders in which the household at a place has moved to a box that was nobody's."""
    return [order[:at] + (box,) + order[at + 1:] for box in range(len(house)) if box not in order]


def behind_event(house, order, event):
    """All orders that there can be behind an event, each one once; none if it cannot come about."""
    names = house.names
    word = event[0]
    if word == "letter":
        return with_answer(house, [order], event[1:])
    if word == "swap":
        return [exchanged(order, names.index(event[1]), names.index(event[2]))]
    if word == "swaps":
        return all_exchanged(order)
    if word == "move":
        return all_moved(house, order, names.index(event[1]))
    return [later for at in range(len(names)) for later in all_moved(house, order, at)]


def counted_behind(house, counts, event):
    """A dict from all orders behind an event to the number of stories that end so, by that of those ahead."""
    behind = {}
    for order, count in counts.items():
        for later in behind_event(house, order, event):
            behind[later] = behind.get(later, 0) + count
    return behind


def counted_at_end(house, some, events):
    """A dict from all orders at the end to the number of stories that lead there from some orders."""
    counts = {order: 1 for order in some}
    for event in events:
        counts = counted_behind(house, counts, event)
    return counts


def orders_then(house, events):
    """All orders, ascending, that there can be at the end."""
    check_events(house, events)
    return sorted(counted_at_end(house, list(orders(house)), events))


def orders_first(house, events):
    """All orders, ascending, that there can have been at the beginning."""
    check_events(house, events)
    # Each event that leads from one order to another one can also lead back, so stories can be told backwards.
    # The order at the end need not fit.
    counts = counted_at_end(house, all_orders(house), events[::-1])
    return [order for order in sorted(counts) if plates_agree(house, order)]


def story_count(house, events):
    """How many tuples of orders there are by which all events come about."""
    check_events(house, events)
    return sum(counted_at_end(house, list(orders(house)), events).values())


def traced_behind(house, traces, event):
    """Traces, pairs of a box at the beginning and an order now, behind an event."""
    behind = {}
    for first, order in traces:
        for later in behind_event(house, order, event):
            behind[first, later] = True
    return behind


def has_moved(house, events, name):
    """Whether a household surely, perhaps or never lives behind another box at the end."""
    check_events(house, events)
    check_name(house, name)
    at = house.names.index(name)
    # Of the beginning, no more than this household's box counts.
    traces = {(order[at], order): True for order in orders(house)}
    for event in events:
        traces = traced_behind(house, traces, event)
    if len(traces) == 0:
        raise NoOrder("the events cannot come about")
    moved = [first != order[at] for first, order in traces]
    if all(moved):
        return "surely"
    return "perhaps" if any(moved) else "never"


def with_exchanges(least, most):
    """A dict from orders to the least number of exchanges, up to so many, after more of them were made."""
    reached = {order: count for order, count in least.items()}
    for made in range(most):
        ready = [order for order, count in reached.items() if count == made]
        for order in ready:
            for later in all_exchanged(order):
                if reached.get(later, most + 1) > made + 1:
                    reached[later] = made + 1
    return reached


def fewest_moves(house, log, most):
    """The least number of exchanges of two households with which a log comes about, or None."""
    check_log(house, log)
    check_number(most, 0, MOST_EXCHANGES)
    least = {order: 0 for order in orders(house)}
    for entry in log:
        reached = with_exchanges(least, most)
        least = {order: reached[order] for order in with_answer(house, list(reached), entry)}
    return min(least.values(), default=None)
