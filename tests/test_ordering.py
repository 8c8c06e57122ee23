"""Point 3: orders, and what of point 1 concerns them."""

import inspect
import re
import unittest
from itertools import product

from lostplates import ordering
from lostplates.errors import InvalidOrder
from lostplates.houses import House
from lostplates.ordering import could_live, fits, order_count, orders
from tests.example_runner import outcome

EXAMPLE_ORDERS = """
>>> from lostplates.houses import House
>>> from lostplates.ordering import could_live, fits, order_count, orders
>>> house = House(("ann", "bo"), ("", "...", ""), {"ann": "back", "bo": "back"})
>>> [list(orders(house)), order_count(house), could_live(house), fits(house, (2, 1))]
[[(1, 0), (1, 2)], 2, {'ann': (1,), 'bo': (0, 2)}, False]
"""

EXAMPLE_WRONG_ORDER = """
>>> from lostplates.houses import House
>>> from lostplates.ordering import fits
>>> fits(House(("ann", "bo"), ("", ""), {"ann": "back", "bo": "back"}), (1, 1))
raises InvalidOrder()
"""


def house_of(names, plates):
    return House(names, plates, {name: "back" for name in names})


def agrees(house, order):
    """Whether an order fits, said another way: a pattern is a regular expression, too."""
    behind = {box: name for name, box in zip(house.names, order)}
    shown = [(plate, behind.get(box, "")) for box, plate in enumerate(house.plates) if plate]
    return all(re.fullmatch(plate, name) for plate, name in shown)


def every_order(house):
    rows = product(range(len(house)), repeat=len(house.names))
    return [row for row in rows if len(set(row)) == len(row)]


HOUSES = [
    house_of(("ann",), ("",)),
    house_of(("ann",), ("", "", "", "", "", "")),
    house_of(("ann",), ("", "a..", "")),
    house_of(("ann",), ("...", "...")),
    house_of(("ann", "bo"), ("", "...", "")),
    house_of(("ann", "bob", "eve"), ("", "", "")),
    house_of(("ann", "bob", "eve"), ("", "", "", "", "")),
    house_of(("ann", "bob", "eve"), ("...", "", "b..", "")),
    house_of(("ann", "bob", "eve"), ("..n", "", "..e")),
    house_of(("ann", "bob", "eve"), ("b.b", "b.b", "", "")),
    house_of(("ann", "bob", "eve"), ("eva", "", "")),
    house_of(("ann", "bob", "eve"), ("....", "", "")),
    house_of(("aa", "ab", "b", "bb", "c"), (".", "a.", ".b", "", "", "")),
    house_of(("aa", "ab", "b", "bb", "c"), (".", ".", "..", "..", "..", "")),
    house_of(("aa", "ab", "b", "bb", "c"), (".", ".", "..", "..", "..", "..")),
    house_of(("abcdefgh", "abcdefgx", "x"), ("abcdefg.", ".......x", "")),
    house_of(tuple("abcdef"), ("",) * 6),
    house_of(tuple("abcdef"), (".", "d", "", ".", "a", "")),
]


class ExamplesTest(unittest.TestCase):
    def test_examples(self):
        for example in (EXAMPLE_ORDERS, EXAMPLE_WRONG_ORDER):
            got, wanted = outcome(example)
            self.assertEqual(got, wanted)

    def test_interface_is_defined_in_the_file(self):
        for name in ("orders", "order_count", "could_live", "fits"):
            self.assertEqual(getattr(ordering, name).__module__, "lostplates.ordering")


class OrdersTest(unittest.TestCase):
    def check(self, names, plates, wanted):
        house = house_of(names, plates)
        self.assertEqual(list(orders(house)), wanted)
        self.assertEqual(order_count(house), len(wanted))

    def test_orders_is_a_generator(self):
        rows = orders(house_of(("ann", "bob"), ("", "")))
        self.assertTrue(inspect.isgeneratorfunction(orders))
        self.assertEqual(next(rows), (0, 1))
        self.assertEqual(next(rows), (1, 0))
        self.assertEqual(next(rows, "no more"), "no more")

    def test_without_plates_in_tuple_order(self):
        self.check(("ann",), ("",), [(0,)])
        self.check(("ann",), ("", "", ""), [(0,), (1,), (2,)])
        self.check(("ann", "bob"), ("", "", ""), [(0, 1), (0, 2), (1, 0), (1, 2), (2, 0), (2, 1)])

    def test_a_box_with_a_pattern_is_not_nobodys(self):
        self.check(("ann",), ("", "..."), [(1,)])
        self.check(("ann", "bob"), ("", "", "..."), [(0, 2), (1, 2), (2, 0), (2, 1)])

    def test_a_name_that_no_pattern_shows_lives_behind_no_plate(self):
        self.check(("ann", "bo"), ("...", "...", ""), [])
        self.check(("ann", "bob"), ("", "a.."), [(1, 0)])

    def test_letters_that_can_be_read_must_be_the_same(self):
        self.check(("ann", "ant"), ("..t", ""), [(1, 0)])
        self.check(("ann", "ant"), ("an.", ""), [(0, 1), (1, 0)])
        self.check(("ann", "ant"), (".x.", ""), [])
        self.check(("ann", "ant"), ("ant", "ann"), [(1, 0)])

    def test_as_many_letters(self):
        for plate in ("....", "..", ".", "ann.", ".ann", "an"):
            self.check(("ann",), (plate,), [])
            self.check(("ann",), ("", plate), [])
        self.check(("ann",), ("...",), [(0,)])

    def test_points_are_any_letter(self):
        self.check(("ab", "ba", "bb"), (".b", "", "b."), [(0, 1, 2), (0, 2, 1), (1, 2, 0)])

    def test_against_all_orders_tried_one_by_one(self):
        for house in HOUSES:
            with self.subTest(names=house.names, plates=house.plates):
                wanted = [order for order in every_order(house) if agrees(house, order)]
                self.assertEqual(list(orders(house)), wanted)
                self.assertEqual(order_count(house), len(wanted))

    def test_orders_are_tuples_of_numbers(self):
        for order in orders(HOUSES[5]):
            self.assertEqual([type(order)] + [type(box) for box in order], [tuple, int, int, int])

    def test_the_largest_house_has_all_orders(self):
        self.assertEqual(order_count(house_of(tuple("abcdef"), ("",) * 6)), 720)


class CouldLiveTest(unittest.TestCase):
    def test_boxes_are_ascending_tuples(self):
        house = house_of(("ann", "bob", "eve"), ("", "b..", "", "..."))
        self.assertEqual(could_live(house), {"ann": (0, 2, 3), "bob": (1,), "eve": (0, 2, 3)})

    def test_names_are_ascending(self):
        house = House(("ann", "bob", "eve"), ("", "", ""), {"eve": "back", "bob": "back", "ann": "back"})
        self.assertEqual(list(could_live(house)), ["ann", "bob", "eve"])

    def test_no_boxes_if_no_order_fits(self):
        self.assertEqual(could_live(house_of(("ann", "bo"), ("...", "...", ""))), {"ann": (), "bo": ()})
        self.assertEqual(could_live(house_of(("ann", "bob"), ("", "...."))), {"ann": (), "bob": ()})

    def test_against_all_orders_tried_one_by_one(self):
        for house in HOUSES:
            fitting = [order for order in every_order(house) if agrees(house, order)]
            wanted = [(name, tuple(sorted({row[at] for row in fitting}))) for at, name in enumerate(house.names)]
            self.assertEqual(list(could_live(house).items()), wanted)

    def test_the_caller_may_change_what_is_returned(self):
        house = house_of(("ann", "bo"), ("", "...", ""))
        could_live(house).clear()
        list(orders(house)).clear()
        self.assertEqual(could_live(house), {"ann": (1,), "bo": (0, 2)})
        self.assertEqual(list(orders(house)), [(1, 0), (1, 2)])


class FitsTest(unittest.TestCase):
    def test_every_order_of_every_house(self):
        for house in HOUSES:
            for order in every_order(house):
                self.assertIs(fits(house, order), agrees(house, order))

    def test_a_pattern_on_a_box_that_is_nobodys(self):
        house = house_of(("ann",), ("", "..."))
        self.assertIs(fits(house, (0,)), False)
        self.assertIs(fits(house, (1,)), True)

    def test_no_order_of_the_house(self):
        house = house_of(("ann", "bob"), ("", "", ""))
        wrong = [(), (0,), (0, 1, 2), (1, 1), (0, 0), (0, 3), (3, 0), (-1, 0), (0, -1), (2, -3)]
        wrong += [[0, 1], "01", None, 0, {0: 1, 1: 0}, (True, 0), (0, True), (False, 1), (True, False)]
        wrong += [("0", "1"), (0, None), (None, None), (0, 1.0), ((0,), (1,)), ([], [])]
        for order in wrong:
            with self.subTest(order=order), self.assertRaises(InvalidOrder):
                fits(house, order)

    def test_no_order_even_if_no_order_fits(self):
        house = house_of(("ann",), ("...", "..."))
        self.assertIs(fits(house, (0,)), False)
        for order in ((2,), (), (0, 1), (True,)):
            with self.subTest(order=order), self.assertRaises(InvalidOrder):
                fits(house, order)

    def test_the_last_box_of_six_is_five(self):
        house = house_of(("ann",), ("",) * 6)
        self.assertIs(fits(house, (5,)), True)
        with self.assertRaises(InvalidOrder):
            fits(house, (6,))


class RepeatedCallsTest(unittest.TestCase):
    def test_repeated_calls_return_equal_results_and_change_nothing(self):
        for house in HOUSES:
            before = (house.names, house.plates, list(house.manners.items()))
            first = [list(orders(house)), order_count(house), list(could_live(house).items())]
            again = [list(orders(house)), order_count(house), list(could_live(house).items())]
            self.assertEqual(first, again)
            self.assertEqual((house.names, house.plates, list(house.manners.items())), before)

    def test_two_generators_do_not_disturb_each_other(self):
        house = house_of(("ann", "bob"), ("", "", ""))
        pairs = [(one, other) for one in orders(house) for other in orders(house)]
        self.assertEqual(len(pairs), 36)

    def test_an_error_changes_nothing(self):
        house = house_of(("ann", "bob"), ("", "b..", ""))
        with self.assertRaises(InvalidOrder):
            fits(house, (0, 0))
        self.assertEqual(house, house_of(("ann", "bob"), ("", "b..", "")))
        self.assertEqual(list(orders(house)), [(0, 1), (2, 1)])


if __name__ == "__main__":
    unittest.main()
