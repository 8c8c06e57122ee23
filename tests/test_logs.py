"""Points 6 and 7: logs, and what of point 1 concerns them."""

import random
from fractions import Fraction

from lostplates import logs
from lostplates.errors import InvalidBox, InvalidLog, NoOrder, UnknownEntry, UnknownName
from lostplates.houses import House
from lostplates.logs import chance, fate, first_wrong, possible, surely_behind, surely_free
from tests.example_runner import outcome
from tests.samples import (
    NO_BOXES, NO_NAMES, PlateTest, every_letter, fitting, house_of, sample_houses, sample_log, told_possible, told_way,
)

EXAMPLE_LOG = """
>>> from lostplates.houses import House
>>> from lostplates.logs import chance, fate, first_wrong, possible, surely_behind, surely_free
>>> house = House(("ann", "bob"), ("", "", ""), {"ann": "back", "bob": "back"})
>>> log = [("ann", 0, 0), ("ann", 1, None)]
>>> told = [possible(house, log), surely_behind(house, log), surely_free(house, log), fate(house, log, 1)]
>>> [told, first_wrong(house, log + [("bob", 0, None), ("bob", 0, 0)]), chance(house, log, "ann", 1)]
[[[(1, 0), (2, 0)], {'bob': 0}, [], ['kept', 'lies']], 4, (1, 2)]
"""

EXAMPLE_WRONG_LOG = """
>>> from lostplates.houses import House
>>> from lostplates.logs import possible
>>> possible(House(("ann",), ("",), {"ann": "back"}), [("ann", 0, None), ("ann", 0, 7)])
raises InvalidLog(index=1)
"""

WRONG_ENTRIES = (
    [(name, 0, None) for name in NO_NAMES]
    + [("ann", box, None) for box in NO_BOXES]
    + [("ann", 0, told) for told in (7, -1, 10 ** 20, True, False, "0", "back", (0,))]
    + [("ann", 0), ("ann", 0, 0, 0), (), None]
)


def trio():
    return house_of(("ann", "bob"), ("", "", ""))


def unlivable():
    return house_of(("ann", "bob"), ("c..", "", ""))


def samples(seed):
    """Houses with logs, by most of which some orders are possible."""
    rng = random.Random(seed)
    return [(house, sample_log(rng, house, rng.randint(0, 4))) for house in sample_houses(150, seed)]


class ExamplesTest(PlateTest):
    def test_examples(self):
        for example in (EXAMPLE_LOG, EXAMPLE_WRONG_LOG):
            got, wanted = outcome(example)
            self.assertEqual(got, wanted)

    def test_interface_is_defined_in_the_file(self):
        self.check_defined(logs, "possible", "surely_behind", "surely_free", "first_wrong", "fate", "chance")


class InvalidLogTest(PlateTest):
    def check_all(self, house, log, index):
        for function in (possible, surely_behind, surely_free, first_wrong):
            self.check_error(InvalidLog, function, house, log, index=index)
        self.check_error(InvalidLog, fate, house, log, 0, index=index)
        self.check_error(InvalidLog, chance, house, log, "ann", 0, index=index)

    def test_the_index_of_the_first_wrong_tuple(self):
        for wrong in WRONG_ENTRIES:
            self.check_all(trio(), [wrong], 0)
            self.check_all(trio(), [("ann", 0, 0), ("bob", 2, None), wrong, ("cat", 9, 9)], 2)

    def test_a_log_is_checked_before_all_else(self):
        log = [("ann", 0, 0), ("ann", 0, None), ("ann", 0, 7)]
        self.check_all(trio(), log, 2)
        self.check_all(unlivable(), log, 2)
        for index in (-1, 3, True):
            self.check_error(InvalidLog, fate, trio(), log, index, index=2)
        self.check_error(InvalidLog, chance, trio(), log, "cat", 9, index=2)

    def test_the_largest_answer_is_six(self):
        self.check([], possible, trio(), [("ann", 0, 6)])
        self.check(1, first_wrong, trio(), [("ann", 0, 6)])


class PossibleTest(PlateTest):
    def test_empty_log(self):
        self.check([(0, 1), (0, 2), (1, 0), (1, 2), (2, 0), (2, 1)], possible, trio(), [])
        self.check([(1, 0), (2, 0)], possible, house_of(("ann", "bob"), ("b..", "", "")), [])
        self.check([], possible, unlivable(), [])

    def test_all_answers_must_come_about(self):
        self.check([(1, 0), (2, 0)], possible, trio(), [("ann", 0, 0)])
        self.check([(0, 1), (0, 2), (1, 2), (2, 1)], possible, trio(), [("ann", 0, None)])
        self.check([(2, 0)], possible, trio(), [("ann", 0, 0), ("bob", 2, 0)])
        self.check([], possible, trio(), [("ann", 0, 0), ("bob", 0, 0)])

    def test_the_number_of_handings_counts(self):
        house = House(("a", "b", "c"), ("",) * 3, {"a": "keep", "b": (2, 2, 2), "c": "back"})
        self.check([(0, 1, 2)], possible, house, [("a", 1, 1)])
        self.check([(0, 2, 1), (2, 0, 1)], possible, house, [("a", 1, 0)])
        self.check([(1, 0, 2), (1, 2, 0), (2, 1, 0)], possible, house, [("a", 1, None)])

    def test_against_the_words_of_the_document(self):
        lengths = {}
        for house, log in samples(7):
            wanted = told_possible(house, log)
            self.check(wanted, possible, house, log)
            lengths[min(len(wanted), 3)] = True
        self.assertEqual(set(lengths), {0, 1, 2, 3})


class SurelyTest(PlateTest):
    def test_behind(self):
        self.check({}, surely_behind, trio(), [])
        self.check({"ann": 2, "bob": 0}, surely_behind, trio(), [("ann", 0, 0), ("bob", 2, 0)])
        house = house_of(("ann", "bob", "eve"), ("", "b..", "", ""))
        self.check({"bob": 1}, surely_behind, house, [])
        self.check({"ann": 0, "bob": 1}, surely_behind, house, [("eve", 0, 0)])

    def test_free(self):
        self.check([], surely_free, trio(), [])
        self.check([0], surely_free, trio(), [("ann", 1, 0), ("bob", 2, 0)])
        house = house_of(("ann",), ("", "", "a..", ""))
        self.check([0, 1, 3], surely_free, house, [])

    def test_no_order(self):
        for function in (surely_behind, surely_free):
            self.check_error(NoOrder, function, unlivable(), [])
            self.check_error(NoOrder, function, trio(), [("ann", 0, 0), ("bob", 0, 0)])

    def test_against_the_words_of_the_document(self):
        for house, log in samples(8):
            left = told_possible(house, log)
            if not left:
                self.check_error(NoOrder, surely_behind, house, log)
                self.check_error(NoOrder, surely_free, house, log)
                continue
            behind = [{box for order in left for box in [order[at]]} for at in range(len(house.names))]
            wanted = {name: min(boxes) for name, boxes in zip(house.names, behind) if len(boxes) == 1}
            self.check(wanted, surely_behind, house, log)
            wanted = sorted(set(range(len(house))) - {box for order in left for box in order})
            self.check(wanted, surely_free, house, log)


class FirstWrongTest(PlateTest):
    def test_no_order_fits(self):
        self.check(0, first_wrong, unlivable(), [])
        self.check(0, first_wrong, unlivable(), [("ann", 0, 0)])

    def test_none(self):
        self.check(None, first_wrong, trio(), [])
        self.check(None, first_wrong, trio(), [("ann", 0, 0), ("bob", 2, 0)])

    def test_how_many_are_wrong_together(self):
        log = [("ann", 0, 0), ("ann", 1, 0), ("ann", 2, 0), ("ann", 2, None)]
        self.check(2, first_wrong, trio(), log)
        self.check(None, first_wrong, trio(), log[:1])
        self.check(2, first_wrong, trio(), log[:2])
        self.check(1, first_wrong, trio(), [("ann", 0, 1), ("ann", 0, 0)])

    def test_against_the_words_of_the_document(self):
        found = {}
        for house, log in samples(9):
            counts = [count for count in range(len(log) + 1) if not told_possible(house, log[:count])]
            wanted = min(counts, default=None)
            self.check(wanted, first_wrong, house, log)
            found[wanted] = True
        self.assertLessEqual({None, 0, 1, 2, 3}, set(found))


class FateTest(PlateTest):
    def test_each_word(self):
        self.check(["back"], fate, trio(), [("ann", 0, 0)], 0)
        self.check(["kept"], fate, house_of(("ann",), ("a..", "")), [("ann", 0, None)], 0)
        self.check(["lies"], fate, house_of(("ann",), ("a..", "")), [("ann", 1, None)], 0)
        house = House(("a", "b", "c"), ("b", "c", ""), {"a": "back", "b": (1, 1, 1), "c": (0, 0, 0)})
        self.check(["round"], fate, house, [("b", 2, 0), ("a", 0, None)], 1)

    def test_several_words_ascending(self):
        self.check(["kept", "lies"], fate, trio(), [("ann", 0, None)], 0)
        self.check(["kept", "lies"], fate, trio(), [("bob", 1, None), ("ann", 0, None)], 1)
        house = House(("a", "b", "c"), ("",) * 4, {"a": "back", "b": (1, 1, 1), "c": (0, 0, 0)})
        self.check(["kept", "lies", "round"], fate, house, [("a", 0, None)], 0)

    def test_each_letter_of_a_log(self):
        log = [("ann", 0, 0), ("ann", 1, None), ("ann", 2, None)]
        self.check(["back"], fate, trio(), log, 0)
        self.check(["kept", "lies"], fate, trio(), log, 1)
        self.check(["kept", "lies"], fate, trio(), log, 2)

    def test_unknown_entry(self):
        for index in (-1, 2, 3, 100, True, False):
            self.check_error(UnknownEntry, fate, trio(), [("ann", 0, 0), ("ann", 1, None)], index)
        self.check_error(UnknownEntry, fate, trio(), [], 0)

    def test_unknown_entry_comes_before_no_order(self):
        log = [("ann", 0, 0), ("ann", 0, None)]
        self.check_error(UnknownEntry, fate, trio(), log, 2)
        self.check_error(UnknownEntry, fate, trio(), log, -1)
        self.check_error(NoOrder, fate, trio(), log, 1)
        self.check_error(NoOrder, fate, unlivable(), log, 0)

    def test_against_the_words_of_the_document(self):
        for house, log in samples(10):
            left = told_possible(house, log)
            for index, (name, box, _) in enumerate(log):
                if left:
                    wanted = sorted({told_way(house, order, name, box)[1] for order in left})
                    self.check(wanted, fate, house, log, index)
                else:
                    self.check_error(NoOrder, fate, house, log, index)


class ChanceTest(PlateTest):
    def test_lowest_terms(self):
        self.check((1, 3), chance, trio(), [], "ann", 0)
        self.check((1, 2), chance, trio(), [("ann", 0, 0)], "ann", 1)
        self.check((1, 2), chance, trio(), [("ann", 0, None)], "ann", 0)
        self.check((1, 4), chance, trio(), [("bob", 0, None)], "bob", 1)
        house = house_of(("ann", "bob", "eve"), ("", "", ""))
        self.check((2, 3), chance, house, [("ann", 0, 0), ("bob", 1, 0)], "ann", 1)

    def test_none_and_all(self):
        self.check((0, 1), chance, trio(), [("ann", 0, 0)], "ann", 0)
        self.check((1, 1), chance, trio(), [("ann", 0, 0)], "bob", 0)
        self.check((1, 1), chance, house_of(("ann",), ("",)), [], "ann", 0)

    def test_wrong_letters(self):
        for name in NO_NAMES:
            self.check_error(UnknownName, chance, trio(), [], name, 0)
        for box in NO_BOXES:
            self.check_error(InvalidBox, chance, trio(), [], "ann", box)

    def test_the_first_error_counts(self):
        self.check_error(UnknownName, chance, unlivable(), [], "cat", 3)
        self.check_error(InvalidBox, chance, unlivable(), [], "ann", 3)
        self.check_error(NoOrder, chance, unlivable(), [], "ann", 0)
        self.check_error(NoOrder, chance, trio(), [("ann", 0, 0), ("ann", 0, None)], "ann", 0)

    def test_against_the_words_of_the_document(self):
        found = {}
        for house, log in samples(11):
            left = told_possible(house, log)
            for name, box in every_letter(house) if left else []:
                many = sum(order[house.names.index(name)] == box for order in left)
                wanted = Fraction(many, len(left))
                self.check((wanted.numerator, wanted.denominator), chance, house, log, name, box)
                found[wanted.numerator > 1, many != wanted.numerator] = True
        self.assertEqual(len(found), 4)


class FittingTest(PlateTest):
    def test_the_samples_know_orders_that_fit(self):
        # What these tests are compared with rests on it.
        self.assertEqual(fitting(trio()), [(0, 1), (0, 2), (1, 0), (1, 2), (2, 0), (2, 1)])
        self.assertEqual(fitting(house_of(("ann", "bob"), ("", "...", "b.b"))), [(1, 2)])
        self.assertEqual(fitting(unlivable()), [])
