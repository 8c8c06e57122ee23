"""Points 22 and 23: several postmen, and what of point 1 concerns them."""

import random

from lostplates import postmen
from lostplates.errors import InvalidNumber, InvalidOrder, InvalidRows, NoOrder
from lostplates.houses import House
from lostplates.postmen import held_possible, in_common, spoken
from tests.example_runner import outcome
from tests.samples import (
    NO_BOXES, NO_NAMES, NO_ORDERS, PlateTest, every_letter, fitting, house_of, sample_houses, told_answer,
)

EXAMPLE_POSTMEN = """
>>> from lostplates.houses import House
>>> from lostplates.postmen import held_possible, in_common, spoken
>>> house = House(("ant", "bee"), ("", ""), {"ant": "back", "bee": "keep"})
>>> rows = ((), (("bee", 0),))
>>> [held_possible(house, (0, 1), rows, 0), held_possible(house, (0, 1), rows, 1), in_common(house, (0, 1), rows), spoken(house, (0, 1), rows)]
[[(0, 1), (1, 0)], [(0, 1)], [(0, 1), (1, 0)], (0, ((False, True),), 2)]
"""

EXAMPLE_NO_ORDER = """
>>> from lostplates.houses import House
>>> from lostplates.postmen import spoken
>>> house = House(("ant", "bee"), ("", "b..", ""), {"ant": (None, 0), "bee": "back"})
>>> spoken(house, (0, 2), ((),))
raises NoOrder()
"""

WRONG_LETTERS = [(name, 0) for name in NO_NAMES] + [("ann", box) for box in NO_BOXES]
WRONG_LETTERS += [("ann",), (), ("ann", 0, 0), (0, "ann"), ["ann", 0], "ann", None, 0]
NO_INDEXES = (-1, True, False, None, "0")


def trio():
    """Two households that put letters back, in three boxes."""
    return house_of(("ann", "bob"), ("", "", ""))


def plated():
    """The orders (0, 1) and (2, 1) fit."""
    return house_of(("ann", "bob"), ("", "b..", ""))


ALL_OF_TRIO = [(0, 1), (0, 2), (1, 0), (1, 2), (2, 0), (2, 1)]


def told_seen(house, order, row):
    return [told_answer(house, order, name, box) for name, box in row]


def told_held(house, order, row, some):
    """Those of some orders that a postman cannot tell from an order."""
    return [other for other in some if told_seen(house, other, row) == told_seen(house, order, row)]


def told_common(house, order, rows):
    found, more, some = [], [order], fitting(house)
    while more:
        found += more
        next_ones = {other for one in more for row in rows for other in told_held(house, one, row, some)}
        more = sorted(next_ones - set(found))
    return sorted(found)


def told_spoken(house, order, rows):
    left, words = fitting(house), []
    while True:
        said = {one: tuple(len(told_held(house, one, row, left)) == 1 for row in rows) for one in left}
        words.append(said[order])
        later = [one for one in left if said[one] == said[order]]
        if later == left:
            return len(words) - 1, tuple(words), len(left)
        left = later


def samples(seed, many):
    rng = random.Random(seed)
    for house in sample_houses(many, seed):
        rows = tuple(
            tuple(rng.choices(every_letter(house), k=rng.randint(0, 3))) for _ in range(rng.randint(1, 4))
        )
        some = fitting(house)
        if some:
            yield house, rng.choice(some), rows


class ExamplesTest(PlateTest):
    def test_examples(self):
        for example in (EXAMPLE_POSTMEN, EXAMPLE_NO_ORDER):
            got, wanted = outcome(example)
            self.assertEqual(got, wanted)

    def test_interface_is_defined_in_the_file(self):
        self.check_defined(postmen, "held_possible", "in_common", "spoken")


class ErrorsTest(PlateTest):
    def check_all(self, error, house, order, rows, **attributes):
        self.check_error(error, in_common, house, order, rows, **attributes)
        self.check_error(error, spoken, house, order, rows, **attributes)
        # Whether or not what comes behind is right.
        for index in (0, -1):
            self.check_error(error, held_possible, house, order, rows, index, **attributes)

    def test_no_order_of_the_house(self):
        for order in NO_ORDERS:
            self.check_all(InvalidOrder, trio(), order, ((),))
            self.check_all(InvalidOrder, trio(), order, ())
            self.check_all(InvalidOrder, plated(), order, ((("cat", 0),),))

    def test_no_rows(self):
        self.check_all(InvalidRows, trio(), (0, 1), (), index=0)
        self.check_all(InvalidRows, plated(), (0, 2), (), index=0)

    def test_the_index_of_the_first_wrong_row(self):
        for wrong in WRONG_LETTERS:
            self.check_all(InvalidRows, trio(), (0, 1), ((wrong,),), index=0)
            self.check_all(InvalidRows, trio(), (0, 1), ((), (("ann", 0), ("bob", 2), wrong), (wrong,)), index=1)
            self.check_all(InvalidRows, trio(), (0, 1), ((), (), (), (wrong, ("ann", 0))), index=3)
            self.check_all(InvalidRows, plated(), (0, 2), ((), (), (wrong,)), index=2)

    def test_the_fifth_row(self):
        self.check_all(InvalidRows, trio(), (0, 1), ((),) * 5, index=4)
        self.check_all(InvalidRows, trio(), (0, 1), ((("ann", 0),),) * 8, index=4)
        self.check_all(InvalidRows, trio(), (0, 1), ((),) * 4 + ((("cat", 0),),), index=4)
        self.check_all(InvalidRows, trio(), (0, 1), ((), (("cat", 0),)) * 4, index=1)

    def test_another_index(self):
        for index in NO_INDEXES + (1,):
            self.check_error(InvalidNumber, held_possible, trio(), (0, 1), ((),), index)
        for index in NO_INDEXES + (4,):
            self.check_error(InvalidNumber, held_possible, trio(), (0, 1), ((),) * 4, index)
            # Ahead of NoOrder.
            self.check_error(InvalidNumber, held_possible, plated(), (0, 2), ((),) * 4, index)

    def test_orders_that_do_not_fit(self):
        for order in ((0, 2), (1, 0), (1, 2), (2, 0)):
            self.check_error(NoOrder, held_possible, plated(), order, ((),), 0)
            self.check_error(NoOrder, in_common, plated(), order, ((),))
            self.check_error(NoOrder, spoken, plated(), order, ((),))


class HeldPossibleTest(PlateTest):
    def test_no_letters(self):
        self.check(ALL_OF_TRIO, held_possible, trio(), (0, 1), ((),), 0)
        self.check([(0, 1), (2, 1)], held_possible, plated(), (2, 1), ((),) * 4, 3)

    def test_only_the_own_letters_are_seen(self):
        rows = ((("bob", 0),), (("ann", 1),), (("bob", 0), ("ann", 1)), ())
        wanted = ([(0, 1), (0, 2)], [(0, 1), (2, 1)], [(0, 1)], ALL_OF_TRIO)
        for index, some in enumerate(wanted):
            self.check(some, held_possible, trio(), (0, 1), rows, index)
        self.check([(1, 0), (1, 2), (2, 0), (2, 1)], held_possible, trio(), (2, 0), rows, 0)

    def test_an_answer_that_tells_nothing(self):
        house = house_of(("ann", "bob"), ("", "", ""), "keep")
        self.check(ALL_OF_TRIO, held_possible, house, (1, 2), ((("ann", 0), ("bob", 1)),), 0)

    def test_only_orders_that_fit(self):
        self.check([(0, 1), (2, 1)], held_possible, plated(), (0, 1), ((("ann", 1),),), 0)
        self.check([(2, 1)], held_possible, plated(), (2, 1), ((("bob", 0), ("bob", 2)),), 0)

    def test_against_the_words_of_the_document(self):
        for house, order, rows in samples(43, 150):
            for index, row in enumerate(rows):
                wanted = told_held(house, order, row, fitting(house))
                self.check(wanted, held_possible, house, order, rows, index)


class InCommonTest(PlateTest):
    def test_rows_that_part_none(self):
        self.check(ALL_OF_TRIO, in_common, trio(), (0, 1), ((),))
        self.check(ALL_OF_TRIO, in_common, trio(), (2, 0), ((), (("ann", 0),)))

    def test_rows_that_part_all(self):
        row = (("bob", 0), ("bob", 1), ("ann", 0), ("ann", 1))
        self.check([(0, 1)], in_common, trio(), (0, 1), (row,))
        self.check([(2, 0)], in_common, trio(), (2, 0), (row, row, row, row))

    def test_a_chain_of_steps(self):
        # One postman sees whether ann lives in box 0, the other one whether bob lives in box 1.
        rows = ((("bob", 0),), (("ann", 1),))
        self.check([(0, 1), (0, 2)], held_possible, trio(), (0, 1), rows, 0)
        self.check([(0, 1), (2, 1)], held_possible, trio(), (0, 1), rows, 1)
        self.check(ALL_OF_TRIO, in_common, trio(), (0, 1), rows)

    def test_a_chain_that_does_not_reach_all(self):
        # Both see whether ann lives in box 0; besides one of them whether she lives in box 1, the other one whether
        # bob lives there.
        rows = ((("bob", 0), ("bob", 1)), (("bob", 0), ("ann", 1)))
        self.check([(1, 0), (1, 2)], held_possible, trio(), (1, 0), rows, 0)
        self.check([(1, 0), (1, 2), (2, 0)], held_possible, trio(), (1, 0), rows, 1)
        for order in ((1, 0), (1, 2), (2, 0), (2, 1)):
            self.check([(1, 0), (1, 2), (2, 0), (2, 1)], in_common, trio(), order, rows)
        self.check([(0, 1), (0, 2)], in_common, trio(), (0, 1), rows)
        self.check([(0, 1), (0, 2)], in_common, trio(), (0, 2), rows)

    def test_against_the_words_of_the_document(self):
        found = {}
        for house, order, rows in samples(44, 150):
            wanted = told_common(house, order, rows)
            self.check(wanted, in_common, house, order, rows)
            at_once = {other for row in rows for other in told_held(house, order, row, fitting(house))}
            found[len(wanted) > len(at_once), len(wanted) < len(fitting(house))] = True
        self.assertLessEqual({(False, False), (False, True), (True, False)}, set(found))


class SpokenTest(PlateTest):
    def test_all_know(self):
        row = (("bob", 0), ("bob", 1), ("ann", 0), ("ann", 1))
        self.check((0, ((True,),), 6), spoken, trio(), (0, 1), (row,))
        self.check((0, ((True,) * 4,), 6), spoken, trio(), (1, 2), (row,) * 4)

    def test_the_only_order(self):
        self.check((0, ((True, True),), 1), spoken, house_of(("ann", "bob"), ("a..", "b..")), (0, 1), ((), ()))

    def test_none_knows(self):
        self.check((0, ((False,),), 6), spoken, trio(), (0, 1), ((),))
        self.check((0, ((False,) * 4,), 6), spoken, trio(), (1, 0), ((),) * 4)

    def test_one_round(self):
        # The first postman learns by (0, 0), (0, None) and (None, 0), but not by (None, None), which order there is.
        rows = ((("bob", 0), ("ann", 1)), ())
        for order in ((0, 1), (0, 2), (2, 1)):
            self.check((1, ((True, False),) * 2, 3), spoken, trio(), order, rows)
        for order in ((1, 0), (1, 2), (2, 0)):
            self.check((1, ((False, False),) * 2, 3), spoken, trio(), order, rows)

    def test_several_rounds(self):
        house = House(("ann", "b"), ("", "", ""), {"ann": (2, 2), "b": (0, 0)})
        rows = ((("b", 2), ("ann", 2), ("b", 0)), (("b", 2), ("ann", 0)), ())
        words = ((False, True, False), (True, True, False), (True, True, True))
        self.check((2, words, 1), spoken, house, (1, 0), rows)

    def test_silence_tells(self):
        # Nobody ever knows, and round after round fewer orders are left by that.
        house = House(("ab", "b", "bob", "eve"), ("",) * 4, {"ab": "back", "b": "back", "bob": (0, 1, 0, 1),
                                                             "eve": (3, 0, 0, None)})
        rows = ((("ab", 3), ("bob", 3), ("bob", 2)), (("bob", 1), ("bob", 3)), (("ab", 1), ("eve", 3)),
                (("bob", 1), ("eve", 1), ("bob", 0)))
        self.check((4, ((False,) * 4,) * 5, 8), spoken, house, (2, 1, 0, 3), rows)

    def test_against_the_words_of_the_document(self):
        found = {}
        for house, order, rows in samples(45, 300):
            wanted = told_spoken(house, order, rows)
            self.check(wanted, spoken, house, order, rows)
            found[wanted[0]] = True
        self.assertLessEqual({0, 1, 2}, set(found))
