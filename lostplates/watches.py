"""Watches: a letter that is watched, without knowing where the households live."""

from lostplates.checks import check_box, check_name, is_box
from lostplates.errors import Ended, NoOrder
from lostplates.letters import way_of
from lostplates.logs import check_log, possible_orders


class Watch:
    """A letter that is put in a box, and what is told of its way."""

    def __init__(self, house, log, name, box):
        check_log(house, log)
        check_name(house, name)
        check_box(house, box)
        # Ascending, as the possible orders are.
        self._ways = {order: way_of(house, order, name, box) for order in possible_orders(house, log)}
        self._boxes = len(house)
        self._seen = (box,)
        self._word = None

    @property
    def orders_left(self):
        """The tuple of all orders that are possible, ascending."""
        return tuple([order for order in self._ways])

    @property
    def seen_boxes(self):
        """The tuple of the boxes into which the letter came."""
        return self._seen

    @property
    def told_word(self):
        """What was told of the letter's end, or None."""
        return self._word

    def came(self, box):
        """Tell that the letter came into a box next, and return how many orders are possible then."""
        self._check_not_ended()
        seen = self._seen + (box,)
        # A boolean is no box, but equal to one.
        right = is_box(box, self._boxes)
        self._leave({order: way for order, way in self._ways.items() if right and way[0][:len(seen)] == seen})
        self._seen = seen
        return len(self._ways)

    def ended(self, word):
        """Tell what became of the letter, and return how many orders are possible then."""
        self._check_not_ended()
        self._leave({order: way for order, way in self._ways.items() if way == (self._seen, word)})
        self._word = word
        return len(self._ways)

    def _check_not_ended(self):
        if self._word is not None:
            raise Ended("what became of the letter was told before")

    def _leave(self, ways):
        """Leave only some of the ways, one at least."""
        if len(ways) == 0:
            raise NoOrder("no order would be possible")
        self._ways = ways

    def next_boxes(self):
        """All boxes, ascending, into which the letter can come next."""
        at = len(self._seen)
        return sorted({boxes[at] for boxes, _ in self._ways.values() if len(boxes) > at})

    def words(self):
        """All words, ascending, that can tell what becomes of the letter in the end."""
        return sorted({word for _, word in self._ways.values()})
