"""Letters that tell: which orders no letter tells apart, and how few letters are enough for the others."""

from itertools import combinations

from lostplates.checks import check_number, check_order
from lostplates.errors import TooMany
from lostplates.letters import all_letters, answer_of
from lostplates.logs import check_log, possible_orders
from lostplates.ordering import orders

MOST_POSSIBLE = 24
MOST_AT_ONCE = 3


def answers_in(house, order):
    """The answers of all letters in an order."""
    return tuple([answer_of(house, order, name, box) for name, box in all_letters(house)])


def alike(house, some):
    """Some orders as a list of lists of those that are alike, in the order of their first ones."""
    found = {}
    for order in some:
        found.setdefault(answers_in(house, order), []).append(order)
    return list(found.values())


def columns_of(house, some):
    """For each letter the tuple of its answers, in one order of each kind among some orders."""
    rows = [answers_in(house, kind[0]) for kind in alike(house, some)]
    return list(zip(*rows))


def kinds(house):
    """All orders that fit, as a list of lists of those that are alike."""
    return alike(house, list(orders(house)))


def parting_letter(house, one, other):
    """The first letter that has unlike answers in two orders, or None."""
    check_order(house, one)
    check_order(house, other)
    for name, box in all_letters(house):
        if answer_of(house, one, name, box) != answer_of(house, other, name, box):
            return name, box
    return None


def most_left(house, some, letter):
    """How many of some orders a letter's answer leaves in the worst case."""
    name, box = letter
    counts = {}
    for order in some:
        told = answer_of(house, order, name, box)
        counts[told] = counts.get(told, 0) + 1
    return max(counts.values())


def next_letter(house, log):
    """The first letter whose answer leaves the fewest possible orders in the worst case."""
    check_log(house, log)
    left = possible_orders(house, log)
    return min(all_letters(house), key=lambda letter: most_left(house, left, letter))


def pieces_of(part, column):
    """A part of the kinds, split by a letter's answers; the largest piece first."""
    pieces = {}
    for kind in part:
        pieces.setdefault(column[kind], []).append(kind)
    return tuple(sorted([tuple(piece) for piece in pieces.values()], key=len, reverse=True))


def splits_of(part, columns):
    """All ways in which a letter splits a part, each one once, those with the smallest largest pieces first."""
    splits = {}
    for column in columns:
        pieces = pieces_of(part, column)
        if len(pieces) > 1:
            splits[pieces] = True
    return sorted(splits, key=lambda pieces: len(pieces[0]))


def could_suffice(part, splits, most):
    """False if so many letters are surely too few for a part, by how much each one tells of it at best."""
    # If each answer is that of a letter's largest piece, a letter leaves out no more than it does alone.
    left_out = sum([len(part) - len(pieces[0]) for pieces in splits[:most]])
    told_apart = 1
    for _ in range(most):
        told_apart = told_apart * max([len(pieces) for pieces in splits])
    return left_out >= len(part) - 1 and told_apart >= len(part)


def all_told(pieces, most, columns, known):
    """Whether so many letters are enough for each piece."""
    for piece in pieces:
        if not is_told(piece, most, columns, known):
            return False
    return True


def is_told(part, most, columns, known):
    """Whether so many letters, each chosen by the answers before, tell all kinds of a part apart."""
    if len(part) == 1:
        return True
    # The same part comes about by the same letters in another order.
    if (part, most) not in known:
        splits = splits_of(part, columns)
        known[part, most] = could_suffice(part, splits, most) and any_told(splits, most, columns, known)
    return known[part, most]


def any_told(splits, most, columns, known):
    """Whether some letter can be the first of so many that tell all kinds of a part apart."""
    for pieces in splits:
        if all_told(pieces, most - 1, columns, known):
            return True
    return False


def fewest_letters(house, log):
    """How many more letters are needed in the worst case until all possible orders are alike."""
    check_log(house, log)
    left = possible_orders(house, log)
    if len(left) > MOST_POSSIBLE:
        raise TooMany("too many orders are possible")
    columns = columns_of(house, left)
    part = tuple(range(len(columns[0])))
    most = 0
    known = {}
    while not is_told(part, most, columns, known):
        most += 1
    return most


def tell_all(columns, many):
    """Whether letters put at once, given by their answers, tell so many kinds apart."""
    # Without a letter, there is no answer to tell even one kind.
    return many == 1 or len(set(list(zip(*columns)))) == many


def fewest_at_once(house, log, most):
    """The shortest tuple of letters whose answers together leave only orders that are alike, or None."""
    check_log(house, log)
    check_number(most, 0, MOST_AT_ONCE)
    columns = columns_of(house, possible_orders(house, log))
    letters = all_letters(house)
    for count in range(most + 1):
        for places in combinations(range(len(letters)), count):
            if tell_all([columns[at] for at in places], len(columns[0])):
                return tuple([letters[at] for at in places])
    return None


def seen_behind(order, boxes):
    """Who lives behind some boxes: the places of their names, None for nobody."""
    return tuple([order.index(box) if box in order else None for box in boxes])


def fewest_doors(house, log):
    """The shortest tuple of boxes such that who lives behind them tells all possible orders apart."""
    check_log(house, log)
    left = possible_orders(house, log)
    for count in range(len(house)):
        for boxes in combinations(range(len(house)), count):
            if len({seen_behind(order, boxes) for order in left}) == len(left):
                return boxes
    return tuple(range(len(house)))
