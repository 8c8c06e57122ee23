"""Point 27: tables and doors, and what of point 1 concerns them."""

import random

from lostplates import tables
from lostplates.errors import InvalidOrder
from lostplates.houses import House
from lostplates.tables import doors, table
from tests.example_runner import outcome
from tests.samples import NO_ORDERS, PlateTest, every_order, house_of, sample_houses, told_way

EXAMPLE_TABLES = """
>>> from lostplates.houses import House
>>> from lostplates.tables import doors, table
>>> house = House(("ant", "bee"), ("", "b..", ""), {"ant": (None, 1), "bee": "back"})
>>> [table(house, (0, 1)), doors(house, (0, 1))]
['ant o < -\\nbee k o -', '0: - ant\\n1: b.. bee\\n2: - -']
"""


def told_table(house, order):
    rows = []
    for name, own in zip(house.names, order):
        row = name
        for box in range(len(house)):
            sign = {"kept": "k", "lies": "-", "back": "<", "round": "@"}[told_way(house, order, name, box)[1]]
            row += " " + ("o" if box == own else sign)
        rows.append(row)
    return "\n".join(rows)


def told_doors(house, order):
    text = ""
    for box, plate in enumerate(house.plates):
        names = [name for name, own in zip(house.names, order) if own == box]
        text += f"\n{box}: {plate or '-'} {names[0] if names else '-'}"
    return text[1:]


class ExamplesTest(PlateTest):
    def test_examples(self):
        got, wanted = outcome(EXAMPLE_TABLES)
        self.assertEqual(got, wanted)

    def test_interface_is_defined_in_the_file(self):
        self.check_defined(tables, "table", "doors")


class ErrorsTest(PlateTest):
    def test_no_order(self):
        house = house_of(("ann", "bob"), ("", "", ""))
        for order in NO_ORDERS:
            self.check_error(InvalidOrder, table, house, order)
            self.check_error(InvalidOrder, doors, house, order)


class TableTest(PlateTest):
    def test_each_sign(self):
        # In the order (0, 1, 2, 3), letters for d go from a to b and round, and from c to d.
        manners = {"a": (None, 3, 4, 1), "b": (0, 0, 2, 0), "c": (3, 2, 2, 3), "d": "keep"}
        house = House(("a", "b", "c", "d"), ("",) * 5, manners)
        self.check("a o k - - -\nb - o < - -\nc - k o - -\nd @ @ k o -", table, house, (0, 1, 2, 3))

    def test_one_box(self):
        self.check("a o", table, house_of(("a",), ("",)), (0,))

    def test_the_own_box_whatever_the_household_does(self):
        for manner in ("back", "keep", (1, None), (0, 0)):
            house = House(("a", "b"), ("", ""), {"a": manner, "b": "keep"})
            self.check("a o -\nb " + ("- o" if manner == "keep" else "< o"), table, house, (0, 1))

    def test_orders_that_do_not_fit(self):
        house = house_of(("a", "b"), ("b", "", ""))
        self.check("a o < -\nb < o -", table, house, (0, 1))

    def test_against_the_words_of_the_document(self):
        rng = random.Random(51)
        signs = {}
        for house in sample_houses(200, 51, most_names=6, most_boxes=6):
            order = rng.choice(every_order(house))
            wanted = told_table(house, order)
            self.check(wanted, table, house, order)
            self.assertEqual(len(wanted.split("\n")), len(house.names))
            signs.update({word: True for word in wanted.split() if len(word) == 1})
        self.assertLessEqual({"o", "k", "-", "<", "@"}, set(signs))


class DoorsTest(PlateTest):
    def test_plates_and_boxes_that_are_nobodys(self):
        house = house_of(("ann", "bo"), ("", "a.n", "", ".."))
        self.check("0: - -\n1: a.n ann\n2: - -\n3: .. bo", doors, house, (1, 3))
        self.check("0: - bo\n1: a.n -\n2: - ann\n3: .. -", doors, house, (2, 0))

    def test_one_box(self):
        self.check("0: - a", doors, house_of(("a",), ("",)), (0,))
        self.check("0: ........ a", doors, house_of(("a",), ("........",)), (0,))

    def test_against_the_words_of_the_document(self):
        rng = random.Random(52)
        for house in sample_houses(200, 52, most_names=6, most_boxes=6):
            order = rng.choice(every_order(house))
            wanted = told_doors(house, order)
            self.check(wanted, doors, house, order)
            self.assertEqual(len(wanted.split("\n")), len(house))
