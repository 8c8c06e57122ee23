"""Point 13: letters that are tried, and what of point 1 concerns them."""

import random
from itertools import permutations

from lostplates import trying
from lostplates.errors import InvalidLog, InvalidOrder, InvalidRow, NoOrder, UnknownName
from lostplates.houses import House
from lostplates.trying import best_row, tried
from tests.example_runner import outcome
from tests.samples import (
    NO_BOXES, NO_NAMES, NO_ORDERS, PlateTest, every_order, house_of, sample_houses, sample_log, told_possible, told_way,
)

EXAMPLE_TRYING = """
>>> from lostplates.houses import House
>>> from lostplates.trying import best_row, tried
>>> house = House(("ann", "bob"), ("", "", ""), {"ann": "back", "bob": "keep"})
>>> told = [tried(house, (0, 2), "bob", (0, 2)), tried(house, (0, 2), "bob", (0, 1)), tried(house, (0, 2), "ann", (2, 0))]
>>> [told, best_row(house, [("bob", 0, 0)], "bob")]
[[('kept', 2), ('lies', 2), ('lies', 1)], (1, (0, 1, 2))]
"""

WRONG_ROWS = [(), (0, 0), (0, 1, 0), (0, 1, 2, 0), [0, 1], [0], None, 0, "01"] + [(box,) for box in NO_BOXES]
WRONG_ROWS += [(0, box) for box in NO_BOXES] + [(box, 0, 1) for box in NO_BOXES]


def trio():
    return house_of(("ann", "bob"), ("", "", ""))


def unlivable():
    return house_of(("ann", "bob"), ("c..", "", ""))


def ring():
    """Between b in box 1 and c in box 2 letters for a go round; d in box 3 hands them on to a in box 0."""
    manners = {"a": "back", "b": (2, 2, 2, 2), "c": (1, 1, 1, 1), "d": (0, 3, 4, 4)}
    return House(("a", "b", "c", "d"), ("",) * 5, manners)


def told_tried(house, order, name, row):
    words = [told_way(house, order, name, box)[1] for box in row]
    count = next((at for at, word in enumerate(words) if word != "back"), len(row) - 1) + 1
    return words[count - 1], count


class ExamplesTest(PlateTest):
    def test_examples(self):
        got, wanted = outcome(EXAMPLE_TRYING)
        self.assertEqual(got, wanted)

    def test_interface_is_defined_in_the_file(self):
        self.check_defined(trying, "tried", "best_row")


class TriedTest(PlateTest):
    def test_kept(self):
        self.check(("kept", 1), tried, trio(), (0, 1), "ann", (0,))
        self.check(("kept", 2), tried, trio(), (0, 1), "ann", (1, 0, 2))
        self.check(("kept", 1), tried, ring(), (0, 1, 2, 3), "a", (3, 1))

    def test_lies(self):
        self.check(("lies", 1), tried, trio(), (0, 1), "ann", (2, 0))
        self.check(("lies", 2), tried, trio(), (0, 1), "ann", (1, 2, 0))
        self.check(("lies", 1), tried, house_of(("ann", "bob"), ("", ""), "keep"), (0, 1), "ann", (1, 0))

    def test_goes_round(self):
        self.check(("round", 1), tried, ring(), (0, 1, 2, 3), "a", (1,))
        self.check(("round", 2), tried, ring(), (0, 1, 2, 3), "d", (0, 2, 3))

    def test_comes_back_from_the_last_box(self):
        self.check(("back", 1), tried, trio(), (0, 1), "ann", (1,))
        self.check(("back", 2), tried, house_of(("a", "b", "c"), ("",) * 3), (0, 1, 2), "a", (2, 1))
        self.check(("kept", 3), tried, house_of(("a", "b", "c"), ("",) * 3), (0, 1, 2), "a", (2, 1, 0))

    def test_orders_that_do_not_fit(self):
        house = house_of(("ann", "bob"), ("b..", "", ""))
        self.check(("kept", 2), tried, house, (0, 1), "ann", (1, 0))
        self.check(("lies", 2), tried, unlivable(), (0, 1), "ann", (1, 2))

    def test_no_order(self):
        for order in NO_ORDERS:
            self.check_error(InvalidOrder, tried, trio(), order, "ann", (0,))

    def test_unknown_name(self):
        for name in NO_NAMES:
            self.check_error(UnknownName, tried, trio(), (0, 1), name, (0,))

    def test_invalid_row(self):
        for row in WRONG_ROWS:
            self.check_error(InvalidRow, tried, trio(), (0, 1), "ann", row)

    def test_the_first_error_counts(self):
        self.check_error(InvalidOrder, tried, trio(), (0, 0), "cat", ())
        self.check_error(InvalidOrder, tried, trio(), (0, 0), "ann", (0, 0))
        self.check_error(UnknownName, tried, trio(), (0, 1), "cat", ())
        self.check_error(InvalidRow, tried, trio(), (0, 1), "ann", ())

    def test_against_the_words_of_the_document(self):
        found = {}
        rng = random.Random(23)
        for house in sample_houses(60, 23):
            for order in every_order(house)[::2]:
                row = tuple(rng.sample(range(len(house)), rng.randint(1, len(house))))
                name = rng.choice(house.names)
                wanted = told_tried(house, order, name, row)
                self.check(wanted, tried, house, order, name, row)
                found[wanted] = True
        self.assertLessEqual({("round", 1), ("kept", 3), ("lies", 3), ("back", 2)}, set(found))


class BestRowTest(PlateTest):
    def test_all_possible_orders(self):
        self.check((2, (0, 1)), best_row, house_of(("ann", "bob"), ("", "")), [], "ann")
        self.check((6, (0, 1, 2)), best_row, house_of(("a", "b", "c"), ("",) * 3), [], "c")
        self.check((1, (0, 1, 2)), best_row, trio(), [("ann", 0, 0), ("bob", 1, 0)], "ann")

    def test_the_first_of_several(self):
        self.check((3, (0, 1, 2)), best_row, trio(), [], "ann")
        self.check((1, (0, 1, 2)), best_row, trio(), [("ann", 0, 0)], "ann")

    def test_another_than_the_first_row(self):
        self.check((3, (1, 2, 0)), best_row, trio(), [("bob", 0, None)], "ann")
        house = House(("ann", "bob"), ("...", "", "..."), {"ann": "keep", "bob": "back"})
        self.check((1, (0, 1, 2)), best_row, house, [], "bob")
        self.check((1, (2, 0, 1)), best_row, house_of(("ann",), ("", "", "...")), [], "ann")

    def test_kept_in_one_order_at_least(self):
        # A row that begins with the box of the household keeps the letter, so there is no row with a count of 0.
        self.check((1, (0, 1)), best_row, House(("ann", "bob"), ("", ""), {"ann": "keep", "bob": "keep"}), [], "ann")
        house = House(("ann", "bob"), ("", "b.."), {"ann": "back", "bob": "keep"})
        self.check((1, (0, 1)), best_row, house, [], "ann")

    def test_each_box_once(self):
        count, row = best_row(house_of(tuple("abcdef"), ("",) * 6), [], "f")
        self.assertEqual((count, row), (720, (0, 1, 2, 3, 4, 5)))

    def test_errors(self):
        wrong = [("ann", 0, 0), ("ann", 3, 0)]
        self.check_error(InvalidLog, best_row, trio(), wrong, "cat", index=1)
        self.check_error(InvalidLog, best_row, unlivable(), wrong, "ann", index=1)
        for name in NO_NAMES:
            self.check_error(UnknownName, best_row, trio(), [], name)
        self.check_error(UnknownName, best_row, unlivable(), [], "cat")
        self.check_error(NoOrder, best_row, unlivable(), [], "ann")
        self.check_error(NoOrder, best_row, trio(), [("ann", 0, 0), ("ann", 0, None)], "ann")

    def test_against_the_words_of_the_document(self):
        found = {}
        rng = random.Random(24)
        for house in sample_houses(80, 24, most_boxes=4):
            log = sample_log(rng, house, rng.randint(0, 2))
            left = told_possible(house, log)
            for name in house.names if left else ():
                counts = [
                    (-sum(told_tried(house, order, name, row)[0] == "kept" for order in left), row)
                    for row in permutations(range(len(house)))
                ]
                self.check((-min(counts)[0], min(counts)[1]), best_row, house, log, name)
                found[min(counts)[1]] = True
        self.assertGreater(len(found), 12)
