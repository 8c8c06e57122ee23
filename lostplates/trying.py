"""Trying boxes: a letter that is put in the next box of a row whenever it comes back."""

from itertools import permutations

from lostplates.checks import check_name, check_order, is_box
from lostplates.errors import InvalidRow
from lostplates.letters import word_of
from lostplates.logs import check_log, possible_orders


def check_row(house, row):
    if not (
        isinstance(row, tuple)
        and len(row) > 0
        and all([is_box(box, len(house)) for box in row])
        and len(set(row)) == len(row)
    ):
        raise InvalidRow("this is no row of different boxes of the house")


def tried(house, order, name, row):
    """What becomes of a letter in the end, and in how many boxes of a row the postman put it."""
    check_order(house, order)
    check_name(house, name)
    check_row(house, row)
    for at, box in enumerate(row):
        word = word_of(house, order, name, box)
        if word != "back":
            return word, at + 1
    return "back", len(row)


def words_counted(house, some, name):
    """A dict from what becomes of a letter in each of the boxes to the number of orders in which it does."""
    counts = {}
    for order in some:
        words = tuple([word_of(house, order, name, box) for box in range(len(house))])
        counts[words] = counts.get(words, 0) + 1
    return counts


def is_kept(words, row):
    """Whether a letter that is tried by a row is kept, by what becomes of it in each of the boxes."""
    for box in row:
        if words[box] != "back":
            return words[box] == "kept"
    return False


def best_row(house, log, name):
    """The row of all boxes by which a letter is kept in the most possible orders: (count, row)."""
    check_log(house, log)
    check_name(house, name)
    # Many orders do the same with letters for one name: there are fewer cases than orders.
    counts = words_counted(house, possible_orders(house, log), name)
    best = None
    for row in permutations(range(len(house))):
        count = sum([many for words, many in counts.items() if is_kept(words, row)])
        if best is None or count > best[0]:
            best = (count, row)
    return best
