"""Point 21: bags of letters, and what of point 1 concerns them."""

import random
from itertools import product

from lostplates import bags
from lostplates.bags import best_delivery, sure_delivery
from lostplates.errors import InvalidBag, InvalidLog, InvalidNumber, InvalidOrder, NoOrder
from lostplates.houses import House
from tests.example_runner import outcome
from tests.samples import (
    NO_BOXES, NO_NAMES, NO_ORDERS, PlateTest, every_order, house_of, sample_houses, sample_log, told_possible, told_way,
)

EXAMPLE_BAGS = """
>>> from lostplates.houses import House
>>> from lostplates.bags import best_delivery, sure_delivery
>>> house = House(("ant", "bee"), ("", "b..", ""), {"ant": (None, 1), "bee": "back"})
>>> [best_delivery(house, (0, 1), ("bee", "bee"), 1), sure_delivery(house, [], ("bee",), 6), sure_delivery(house, [], ("ant",), 6)]
[(1, (0, 1)), (0, (1,)), None]
"""

EXAMPLE_UNKNOWN_NAME = """
>>> from lostplates.houses import House
>>> from lostplates.bags import best_delivery
>>> house = House(("ant", "bee"), ("", "b..", ""), {"ant": (None, 0), "bee": "back"})
>>> best_delivery(house, (0, 1), ("cat",), 0)
raises InvalidBag(index=0)
"""

NO_MOST = (0, 7, -1, 100, True, False, None, "1")


def trio():
    return house_of(("ann", "bob"), ("", "", ""))


def unlivable():
    return house_of(("ann", "bob"), ("c..", "", ""))


def helpers():
    """All hand letters for a on to box 0, where only a can live; b, c, d and e can live anywhere else."""
    manners = {name: (0, None, None, None, None) for name in ("b", "c", "d", "e")}
    return House(("a", "b", "c", "d", "e"), ("a", "", "", "", "", ""), {"a": "keep", **manners})


def chain():
    """In the order (0, 1, 2) letters for c come from box 0 by a and b, or from box 1 by b."""
    return House(("a", "b", "c"), ("", "", ""), {"a": (0, 0, 1), "b": (0, 0, 2), "c": "keep"})


def informed(rng, house, order):
    """A house in which most households have guesses, many of them right in an order."""
    manners = house.manners
    for name in house.names:
        if rng.random() < 0.8:
            others = [None] + list(range(len(house)))
            manners[name] = tuple(box if rng.random() < 0.5 else rng.choice(others) for box in order)
    return House(house.names, house.plates, manners)


def told_best(house, some, bag, most):
    """What point 21 says, all tuples of boxes tried."""
    found = []
    for boxes in product(range(len(house)), repeat=len(bag)):
        ways = [[told_way(house, order, name, box) for name, box in zip(bag, boxes)] for order in some]
        kept = all(word == "kept" for row in ways for _, word in row)
        if kept and all(boxes.count(box) <= most for box in boxes):
            found.append((max(sum(len(way) - 1 for way, _ in row) for row in ways), boxes))
    return min(found, default=None)


class ExamplesTest(PlateTest):
    def test_examples(self):
        for example in (EXAMPLE_BAGS, EXAMPLE_UNKNOWN_NAME):
            got, wanted = outcome(example)
            self.assertEqual(got, wanted)

    def test_interface_is_defined_in_the_file(self):
        self.check_defined(bags, "best_delivery", "sure_delivery")


class ErrorsTest(PlateTest):
    def check_both(self, error, bag, most, **attributes):
        self.check_error(error, best_delivery, trio(), (0, 1), bag, most, **attributes)
        self.check_error(error, sure_delivery, trio(), [], bag, most, **attributes)

    def test_no_order(self):
        for order in NO_ORDERS:
            self.check_error(InvalidOrder, best_delivery, trio(), order, ("ann",), 1)
            self.check_error(InvalidOrder, best_delivery, trio(), order, ("cat",), 0)

    def test_wrong_logs(self):
        for name in NO_NAMES:
            self.check_error(InvalidLog, sure_delivery, trio(), [("ann", 0, 0), (name, 0, 0)], ("ann",), 1, index=1)
        for box in NO_BOXES:
            self.check_error(InvalidLog, sure_delivery, trio(), [("ann", box, 0)], ("cat",), 0, index=0)
        for told in (7, -1, True, "0"):
            self.check_error(InvalidLog, sure_delivery, unlivable(), [("ann", 0, told)], ("cat",), 0, index=0)

    def test_unknown_names(self):
        for name in NO_NAMES:
            self.check_both(InvalidBag, (name,), 1, index=0)
            self.check_both(InvalidBag, ("ann", "bob", name, "ann"), 1, index=2)
            self.check_both(InvalidBag, (name, name), 0, index=0)
            self.check_both(InvalidBag, ("ann",) * 5 + (name,), 7, index=5)

    def test_the_seventh_name(self):
        self.check_both(InvalidBag, ("ann",) * 7, 6, index=6)
        self.check_both(InvalidBag, ("ann",) * 9, 0, index=6)
        self.check_both(InvalidBag, ("ann", "bob") * 3 + ("cat",), 6, index=6)
        self.check_both(InvalidBag, ("ann", "cat") * 4, 6, index=1)

    def test_wrong_numbers(self):
        for most in NO_MOST:
            self.check_both(InvalidNumber, ("ann",), most)
            self.check_both(InvalidNumber, (), most)
            self.check_error(InvalidNumber, sure_delivery, unlivable(), [], ("ann",), most)

    def test_no_order_is_possible(self):
        self.check_error(NoOrder, sure_delivery, unlivable(), [], ("ann",), 1)
        self.check_error(NoOrder, sure_delivery, unlivable(), [], (), 1)
        self.check_error(NoOrder, sure_delivery, trio(), [("ann", 0, 5)], ("ann",), 1)
        self.check_error(InvalidBag, sure_delivery, unlivable(), [], ("cat",), 0, index=0)


class BestDeliveryTest(PlateTest):
    def test_no_letters(self):
        self.check((0, ()), best_delivery, trio(), (0, 1), (), 1)
        self.check((0, ()), best_delivery, trio(), (0, 1), (), 6)

    def test_one_letter(self):
        self.check((0, (1,)), best_delivery, trio(), (0, 1), ("bob",), 1)
        self.check((0, (2,)), best_delivery, trio(), (2, 1), ("ann",), 6)

    def test_six_letters(self):
        self.check((0, (0, 1, 0, 1, 0, 1)), best_delivery, trio(), (0, 1), ("ann", "bob") * 3, 3)
        self.check((0, (0,) * 6), best_delivery, trio(), (0, 1), ("ann",) * 6, 6)
        self.check((4, (0, 0, 1, 1, 2, 2)), best_delivery, helpers(), (0, 1, 2, 3, 4), ("a",) * 6, 2)
        self.check((3, (0, 0, 0, 1, 1, 1)), best_delivery, helpers(), (0, 1, 2, 3, 4), ("a",) * 6, 3)
        self.check((2, (0, 0, 0, 0, 1, 1)), best_delivery, helpers(), (0, 1, 2, 3, 4), ("a",) * 6, 4)

    def test_too_many_for_the_boxes(self):
        self.check(None, best_delivery, trio(), (0, 1), ("ann", "ann"), 1)
        self.check(None, best_delivery, trio(), (0, 1), ("ann",) * 6, 5)
        # Box 5 is nobody's, so there are five boxes for six letters.
        self.check(None, best_delivery, helpers(), (0, 1, 2, 3, 4), ("a",) * 6, 1)
        self.check((4, (0, 1, 2, 3, 4)), best_delivery, helpers(), (0, 1, 2, 3, 4), ("a",) * 5, 1)

    def test_letters_that_are_handed_on(self):
        self.check((0, (2, 2)), best_delivery, chain(), (0, 1, 2), ("c", "c"), 2)
        self.check((1, (1, 2)), best_delivery, chain(), (0, 1, 2), ("c", "c"), 1)
        self.check((3, (0, 1, 2)), best_delivery, chain(), (0, 1, 2), ("c",) * 3, 1)
        self.check((4, (0, 1, 1, 2, 2)), best_delivery, chain(), (0, 1, 2), ("c",) * 5, 2)

    def test_one_letter_makes_room_for_another(self):
        # The letter for b is kept from its own box alone.
        self.check((2, (0, 1, 2)), best_delivery, chain(), (0, 1, 2), ("c", "b", "c"), 1)

    def test_the_least_tuple_of_several(self):
        self.check((1, (0, 1)), best_delivery, helpers(), (0, 1, 2, 3, 4), ("a", "a"), 1)
        self.check((1, (0, 0, 1)), best_delivery, helpers(), (0, 4, 3, 2, 1), ("a",) * 3, 2)

    def test_orders_that_do_not_fit(self):
        house = House(("a", "b"), ("b", "", ""), {"a": "back", "b": (0, None)})
        self.check((1, (0, 1)), best_delivery, house, (0, 1), ("a", "a"), 1)

    def test_against_the_words_of_the_document(self):
        rng = random.Random(41)
        found = {}
        for house in sample_houses(250, 41):
            order = rng.choice(every_order(house))
            house = informed(rng, house, order)
            bag = tuple(rng.choices(rng.choices(house.names, k=2), k=rng.randint(0, 4)))
            most = rng.choice((1, 1, 2, 3, 6))
            wanted = told_best(house, [order], bag, most)
            self.check(wanted, best_delivery, house, order, bag, most)
            found[wanted and wanted[0]] = True
        self.assertLessEqual({None, 0, 1, 2, 3}, set(found))


class SureDeliveryTest(PlateTest):
    def test_no_letters(self):
        self.check((0, ()), sure_delivery, trio(), [], (), 1)

    def test_a_log(self):
        self.check((0, (0,)), sure_delivery, trio(), [("ann", 0, 0)], ("bob",), 1)
        self.check((0, (0, 0, 0)), sure_delivery, trio(), [("ann", 0, 0)], ("bob",) * 3, 3)
        self.check(None, sure_delivery, trio(), [("ann", 0, 0)], ("bob",) * 3, 2)
        self.check((0, (1, 0)), sure_delivery, trio(), [("ann", 0, 0), ("bob", 1, 0)], ("ann", "bob"), 1)

    def test_possible_orders_ask_for_different_boxes(self):
        self.check(None, sure_delivery, trio(), [], ("ann",), 6)
        self.check(None, sure_delivery, trio(), [("ann", 0, 0)], ("ann",), 6)
        self.check(None, sure_delivery, trio(), [("ann", 0, 0)], ("bob", "ann"), 6)
        self.check((0, (1,)), sure_delivery, house_of(("ann", "bo"), ("", "...", "")), [], ("ann",), 1)
        self.check(None, sure_delivery, house_of(("ann", "bo"), ("", "...", "")), [], ("ann", "bo"), 1)

    def test_kept_in_each_possible_order(self):
        # Whichever of a and b lives in box 0 or 1, it knows where c lives.
        house = House(("a", "b", "c"), ("", "", "c"), {"a": (None, None, 2), "b": (None, None, 2), "c": "keep"})
        self.check((2, (0, 1, 2)), sure_delivery, house, [], ("c",) * 3, 1)
        self.check((2, (0, 0, 2, 2)), sure_delivery, house, [], ("c",) * 4, 2)
        self.check((0, (2, 2, 2)), sure_delivery, house, [], ("c",) * 3, 3)

    def test_handed_on_more_often_in_one_of_the_orders(self):
        # From box 0, b hands a letter for c on to c, but a to b; from box 1, a puts it back.
        house = House(("a", "b", "c"), ("", "", "c"), {"a": (None, None, 1), "b": (None, None, 2), "c": "keep"})
        self.check((2, (0, 2)), sure_delivery, house, [], ("c", "c"), 1)
        self.check(None, sure_delivery, house, [], ("c",) * 3, 1)
        self.check((3, (0, 1, 2)), sure_delivery, house, [("c", 1, None)], ("c",) * 3, 1)

    def test_all_letters_together_in_the_worst_order(self):
        # The letter for c from box 0 is handed on twice in one of the two orders, that for d from box 1 in the other.
        manners = {"a": (None, None, 1, 0), "b": (None, None, 2, 3), "c": "keep", "d": "keep"}
        house = House(("a", "b", "c", "d"), ("", "", "c", "d"), manners)
        self.check((2, (0, 2)), sure_delivery, house, [], ("c", "c"), 1)
        self.check((2, (1, 3)), sure_delivery, house, [], ("d", "d"), 1)
        self.check((3, (0, 2, 1, 3)), sure_delivery, house, [], ("c", "c", "d", "d"), 1)

    def test_against_the_words_of_the_document(self):
        rng = random.Random(42)
        found = {}
        for house in sample_houses(400, 42):
            house = informed(rng, house, rng.choice(every_order(house)))
            log = sample_log(rng, house, rng.randint(0, 6))
            some = told_possible(house, log)
            bag = tuple(rng.choices(rng.choices(house.names, k=2), k=rng.randint(0, 3)))
            most = rng.randint(1, 3)
            if some:
                wanted = told_best(house, some, bag, most)
                self.check(wanted, sure_delivery, house, log, bag, most)
                found[wanted and wanted[0], len(some) > 1] = True
            else:
                self.check_error(NoOrder, sure_delivery, house, log, bag, most)
        self.assertLessEqual({(handed, several) for handed in (None, 0, 1, 2) for several in (True, False)}, set(found))
