"""Points 4 and 5: letters, and what of point 1 concerns them."""

from lostplates import letters
from lostplates.errors import InvalidBox, InvalidOrder, UnknownName
from lostplates.houses import House
from lostplates.letters import answer, answers, longest, way
from tests.example_runner import outcome
from tests.samples import (
    NO_BOXES, NO_NAMES, NO_ORDERS, PlateTest, every_letter, every_order, fitting, house_of, sample_houses, told_answer,
    told_way,
)

EXAMPLE_WAYS = """
>>> from lostplates.houses import House
>>> from lostplates.letters import answer, answers, longest, way
>>> house = House(("ann", "bob", "eve"), ("", "", ""), {"ann": "back", "bob": (0, None, 2), "eve": (1, 0, 0)})
>>> ways = [way(house, (0, 1, 2), "eve", 0), way(house, (0, 1, 2), "ann", 2), way(house, (2, 1, 0), "ann", 0)]
>>> [ways, answer(house, (1, 0, 2), "bob", 1), answers(house, "bob", 2), longest(house)]
[[((0,), 'back'), ((2, 1, 0), 'kept'), ((0, 1), 'round')], 0, [0, 1, None], (2, 'ann', 2, (0, 1, 2))]
"""

EXAMPLE_WRONG_BOX = """
>>> from lostplates.houses import House
>>> from lostplates.letters import way
>>> way(House(("ann",), ("",), {"ann": "back"}), (0,), "ann", 1)
raises InvalidBox()
"""


def pair():
    return House(("ann", "bob"), ("", "", ""), {"ann": (None, 2), "bob": (None, 0)})


def chain(last):
    """A house in which a letter for e goes from box 0 on through those of a, b, c and d, who does as is told."""
    manners = {"a": (None, None, None, None, 1), "b": (0, 0, 0, 0, 2), "c": (5, 5, 5, 5, 3), "d": last, "e": "keep"}
    return House(("a", "b", "c", "d", "e"), ("",) * 6, manners)


class ExamplesTest(PlateTest):
    def test_examples(self):
        for example in (EXAMPLE_WAYS, EXAMPLE_WRONG_BOX):
            got, wanted = outcome(example)
            self.assertEqual(got, wanted)

    def test_interface_is_defined_in_the_file(self):
        self.check_defined(letters, "way", "answer", "answers", "longest")


class WayTest(PlateTest):
    def check_way(self, boxes, word, house, order, name, box):
        self.check((boxes, word), way, house, order, name, box)
        self.check(len(boxes) - 1 if word == "back" else None, answer, house, order, name, box)

    def test_nobodys_box(self):
        for manner in ("back", "keep", (0, 0)):
            self.check_way((2,), "lies", house_of(("ann", "bob"), ("", "", ""), manner), (0, 1), "ann", 2)

    def test_the_own_box_keeps_whatever_the_manners(self):
        for manner in ("back", "keep", (None, None), (0, 0), (1, 1)):
            house = house_of(("ann", "bob"), ("", "", ""), manner)
            self.check_way((1,), "kept", house, (1, 2), "ann", 1)
            self.check_way((2,), "kept", house, (1, 2), "bob", 2)

    def test_back(self):
        self.check_way((1,), "back", house_of(("ann", "bob"), ("", "")), (0, 1), "ann", 1)

    def test_keep(self):
        self.check_way((1,), "lies", house_of(("ann", "bob"), ("", ""), "keep"), (0, 1), "ann", 1)

    def test_guess_with_none(self):
        house = House(("ann", "bob"), ("",) * 3, {"ann": "back", "bob": (None, 1)})
        self.check_way((2,), "back", house, (0, 2), "ann", 2)

    def test_guess_with_the_box_in_which_the_letter_is(self):
        self.check_way((0,), "back", pair(), (1, 0), "ann", 0)
        house = House(("ann", "bob"), ("",) * 3, {"ann": "back", "bob": (2, 1)})
        self.check_way((2,), "back", house, (0, 2), "ann", 2)
        self.check_way((1, 2), "lies", house, (0, 1), "ann", 1)

    def test_guess_is_read_by_the_name_of_the_letter(self):
        house = House(("ann", "bob", "eve"), ("",) * 4, {"ann": "back", "bob": (0, 2, 3), "eve": "keep"})
        self.check_way((1, 0), "kept", house, (0, 1, 2), "ann", 1)
        self.check_way((1, 3), "lies", house, (0, 1, 2), "eve", 1)

    def test_handed_on_to_box_0(self):
        house = House(("ann", "bob"), ("", ""), {"ann": "back", "bob": (0, 0)})
        self.check_way((1, 0), "kept", house, (0, 1), "ann", 1)

    def test_kept_behind_several_boxes(self):
        self.check_way((0, 1, 2, 3, 4), "kept", chain((0, 1, 2, 3, 4)), (0, 1, 2, 3, 4), "e", 0)
        self.check_way((2, 3, 4), "kept", chain((0, 1, 2, 3, 4)), (0, 1, 2, 3, 4), "e", 2)

    def test_back_behind_several_boxes(self):
        for last in ("back", (0, 0, 0, 0, None), (0, 0, 0, 0, 3)):
            self.check_way((0, 1, 2, 3), "back", chain(last), (0, 1, 2, 3, 4), "e", 0)
            self.check_way((1, 2, 3), "back", chain(last), (0, 1, 2, 3, 4), "e", 1)
            self.check_way((3,), "back", chain(last), (0, 1, 2, 3, 4), "e", 3)

    def test_lies_behind_several_boxes(self):
        self.check_way((0, 1, 2, 3), "lies", chain("keep"), (0, 1, 2, 3, 4), "e", 0)
        self.check_way((0, 1, 2, 3, 4), "lies", chain((0, 1, 2, 3, 4)), (0, 1, 2, 3, 5), "e", 0)

    def test_goes_round_without_the_second_coming(self):
        for again in (0, 1, 2):
            self.check_way((0, 1, 2, 3), "round", chain((None, None, None, None, again)), (0, 1, 2, 3, 4), "e", 0)
        self.check_way((3, 1, 2), "round", chain((None, None, None, None, 1)), (0, 1, 2, 3, 4), "e", 3)

    def test_orders_that_do_not_fit(self):
        house = House(("ann", "bob"), ("b..", "", "..."), {"ann": "back", "bob": (0, 1)})
        self.check_way((1, 0), "kept", house, (0, 1), "ann", 1)

    def test_against_the_words_of_the_document(self):
        words = {}
        for house in sample_houses(60, 4, most_names=5, most_boxes=6):
            for order in every_order(house)[::7]:
                for name, box in every_letter(house):
                    told = told_way(house, order, name, box)
                    words[told[1], len(told[0])] = True
                    self.assertEqual(way(house, order, name, box), told)
                    self.assertEqual(answer(house, order, name, box), told_answer(house, order, name, box))
        self.assertLessEqual({("kept", 3), ("lies", 4), ("back", 3), ("round", 3)}, set(words))


class WrongPutTest(PlateTest):
    def check_both(self, error, *args):
        self.check_error(error, way, *args)
        self.check_error(error, answer, *args)

    def test_no_order(self):
        for order in NO_ORDERS:
            self.check_both(InvalidOrder, pair(), order, "ann", 0)

    def test_unknown_name(self):
        for name in NO_NAMES:
            self.check_both(UnknownName, pair(), (0, 1), name, 0)

    def test_another_box(self):
        for box in NO_BOXES:
            self.check_both(InvalidBox, pair(), (0, 1), "ann", box)

    def test_the_first_error_counts(self):
        self.check_both(InvalidOrder, pair(), (0, 0), "cat", 3)
        self.check_both(InvalidOrder, pair(), (0, 0), "ann", 3)
        self.check_both(InvalidOrder, pair(), (0, 3), "cat", 0)
        self.check_both(UnknownName, pair(), (0, 1), "cat", 3)


class AnswersTest(PlateTest):
    def test_numbers_ascending_and_none_behind_them(self):
        self.check([0, None], answers, house_of(("ann", "bob"), ("", "")), "ann", 0)
        house = House(("a", "b", "c"), ("",) * 3, {"a": "keep", "b": (1, 0, 0), "c": (None, 0, 0)})
        self.check([0, 1, None], answers, house, "a", 2)

    def test_one_answer_alone(self):
        self.check([None], answers, house_of(("ann", "bob"), ("", ""), "keep"), "ann", 0)
        self.check([0], answers, house_of(("ann", "bob"), ("b..", "")), "ann", 0)
        self.check([None], answers, house_of(("ann", "bob"), ("b..", "")), "bob", 0)

    def test_larger_numbers(self):
        found = {}
        for house in sample_houses(60, 5, most_names=5, most_boxes=5):
            for name, box in every_letter(house):
                told = {told_answer(house, order, name, box) for order in fitting(house)}
                wanted = sorted(told - {None}) + [None] * (None in told)
                self.check(wanted, answers, house, name, box)
                found.update({number: True for number in wanted})
        self.assertLessEqual({0, 1, 2, 3, None}, set(found))

    def test_no_order_fits(self):
        self.check([], answers, house_of(("ann",), ("b..",)), "ann", 0)

    def test_wrong_letters(self):
        for name in NO_NAMES:
            self.check_error(UnknownName, answers, pair(), name, 0)
            self.check_error(UnknownName, answers, pair(), name, 3)
        for box in NO_BOXES:
            self.check_error(InvalidBox, answers, pair(), "ann", box)


class LongestTest(PlateTest):
    def test_no_letter_is_handed_on(self):
        self.check((0, "ann", 0, (0, 1)), longest, house_of(("ann", "bob"), ("", "", "")))
        self.check((0, "ann", 0, (1, 0)), longest, house_of(("ann", "bob"), ("b..", "")))
        self.check((0, "ann", 0, (0,)), longest, house_of(("ann",), ("",)))

    def test_no_order_fits(self):
        self.check(None, longest, house_of(("ann", "bob"), ("c..", "")))

    def test_whatever_becomes_of_the_letter(self):
        self.check((1, "ann", 0, (1, 0)), longest, House(("ann", "bob"), ("", ""), {"ann": "back", "bob": (1, 0)}))
        house = House(("ann", "bob"), ("a..", "", "b.."), {"ann": (0, 1), "bob": "keep"})
        self.check((1, "bob", 0, (0, 2)), longest, house)
        house = House(("ann", "bob", "eve"), ("e..", "b..", "a.."), {"ann": "back", "bob": (0, 0, 0), "eve": (1, 1, 1)})
        self.check((1, "ann", 0, (2, 1, 0)), longest, house)

    def test_orders_that_do_not_fit_do_not_count(self):
        house = House(("ann", "bob"), ("a..", "", ""), {"ann": (0, 0), "bob": (0, 1)})
        self.check((1, "ann", 1, (0, 1)), longest, house)

    def test_the_first_of_several(self):
        found = {}
        for house in sample_houses(80, 6):
            told = [
                (1 - len(told_way(house, order, name, box)[0]), name, box, order)
                for name, box in every_letter(house) for order in fitting(house)
            ]
            wanted = min(told, default=None)
            self.check(wanted and (-wanted[0],) + wanted[1:], longest, house)
            found[wanted and -wanted[0]] = True
        self.assertLessEqual({None, 0, 1, 2, 3}, set(found))
