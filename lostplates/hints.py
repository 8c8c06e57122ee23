"""Hints: which orders they leave, which of them are needless, and which contradict each other."""

from lostplates.checks import are_two_names, is_box, is_letter
from lostplates.errors import InvalidHint
from lostplates.ordering import orders


def is_hint(house, hint):
    if not isinstance(hint, tuple) or len(hint) == 0:
        return False
    word = hint[0]
    if word == "free":
        return len(hint) == 2 and is_box(hint[1], len(house))
    if word == "behind" or word == "not":
        return is_letter(house, hint[1:])
    if word == "ahead" or word == "beside":
        return are_two_names(house, hint[1:])
    return False


def check_hints(house, hints):
    for index, hint in enumerate(hints):
        if not is_hint(house, hint):
            raise InvalidHint(index)


def holds(house, order, hint):
    """Whether a hint holds in an order."""
    word = hint[0]
    if word == "free":
        return hint[1] not in order
    box = order[house.names.index(hint[1])]
    if word == "behind":
        return box == hint[2]
    if word == "not":
        return box != hint[2]
    other = order[house.names.index(hint[2])]
    if word == "ahead":
        return box < other
    return abs(box - other) == 1


def broken(house, order, hints):
    """The tuple of the indexes of all hints that do not hold in an order."""
    return tuple([index for index, hint in enumerate(hints) if not holds(house, order, hint)])


def hinted(house, hints):
    """All orders that fit and in which all hints hold."""
    check_hints(house, hints)
    return [order for order in orders(house) if len(broken(house, order, hints)) == 0]


def needless(house, hints):
    """The indexes of all hints without each of which alone the same orders are left."""
    check_hints(house, hints)
    # A hint is needed if it is the only one that an order breaks.
    alone = {broken(house, order, hints): True for order in orders(house)}
    return [index for index in range(len(hints)) if (index,) not in alone]


def smallest_groups(groups):
    """Groups of indexes without those that have another one within them: who hits this one hits them, too."""
    found = []
    found_bits = []
    once = {group: True for group in groups}
    for group in sorted(once, key=len):
        # Numbers with a bit for each index are compared faster than the tuples.
        bits = sum([1 << index for index in group])
        if not any([other & bits == other for other in found_bits]):
            found.append(group)
            found_bits.append(bits)
    return found


def apart(groups):
    """A number of groups that have no index in common; as many indexes at least are needed to hit them."""
    many = 0
    used = {}
    for group in groups:
        if not any([index in used for index in group]):
            many += 1
            used.update({index: True for index in group})
    return many


def can_hit(groups, most):
    """Whether so many indexes are enough to have one of each group among them."""
    if len(groups) == 0:
        return True
    if apart(groups) > most:
        return False
    smallest = min(groups, key=len)
    for at, index in enumerate(smallest):
        # With an index that was tried in vain before, it would be in vain again.
        vain = smallest[:at]
        others = [group for group in groups if index not in group]
        if can_hit([tuple([place for place in group if place not in vain]) for group in others], most - 1):
            return True
    return False


def first_hit(groups):
    """The shortest ascending tuple of indexes that has one of each group, of several the first one."""
    left = smallest_groups(groups)
    most = 0
    while not can_hit(left, most):
        most += 1
    chosen = ()
    index = 0
    while len(left) > 0:
        others = [tuple([place for place in group if place > index]) for group in left if index not in group]
        if can_hit(others, most - len(chosen) - 1):
            chosen = chosen + (index,)
            left = others
        index += 1
    return chosen


def least_hints(house, hints):
    """The shortest tuple of indexes of hints that leave the same orders as all of them."""
    check_hints(house, hints)
    groups = [broken(house, order, hints) for order in orders(house)]
    return first_hit([group for group in groups if len(group) > 0])


def quarrel(house, hints):
    """The shortest tuple of indexes of hints that leave no order, or None."""
    check_hints(house, hints)
    groups = [broken(house, order, hints) for order in orders(house)]
    if () in groups:
        return None
    return first_hit(groups)
