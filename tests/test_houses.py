"""Point 2: houses, and what of point 1 concerns them."""

import unittest

from lostplates.errors import InvalidHouse
from lostplates.houses import House
from tests.example_runner import outcome

EXAMPLE_HOUSE = """
>>> from lostplates.houses import House
>>> house = House(("ann", "bob"), ("", "b..", ""), {"bob": "keep", "ann": (None, 2)})
>>> [len(house), house.manners, house == House(("ann", "bob"), ("", "b..", ""), {"ann": (0, 2), "bob": "keep"})]
[3, {'ann': (None, 2), 'bob': 'keep'}, False]
"""

EXAMPLE_WRONG_MANNERS = """
>>> from lostplates.houses import House
>>> House(("ann", "bob"), ("", ""), {"ann": "back", "bob": (0, 2)})
raises InvalidHouse(part='manners')
"""

SIX = ("a", "b", "c", "d", "e", "f")


def all_back(names):
    return {name: "back" for name in names}


def small_house():
    return House(("ann", "bob"), ("", "b..", ""), {"bob": "keep", "ann": (None, 2)})


class ExamplesTest(unittest.TestCase):
    def test_examples(self):
        for example in (EXAMPLE_HOUSE, EXAMPLE_WRONG_MANNERS):
            got, wanted = outcome(example)
            self.assertEqual(got, wanted)


class RightHousesTest(unittest.TestCase):
    def test_properties(self):
        house = small_house()
        self.assertEqual(house.names, ("ann", "bob"))
        self.assertEqual(house.plates, ("", "b..", ""))
        self.assertEqual(house.manners, {"ann": (None, 2), "bob": "keep"})
        self.assertEqual([len(house), type(house.names), type(house.plates)], [3, tuple, tuple])

    def test_interface_is_defined_in_the_class(self):
        self.assertEqual(House.__module__, "lostplates.houses")
        for name in ("names", "plates", "manners"):
            self.assertIsInstance(vars(House)[name], property)
        for name in ("__init__", "__len__", "__eq__"):
            self.assertIn(name, vars(House))

    def test_parameters_by_keyword(self):
        house = House(manners={"ann": "back"}, plates=("",), names=("ann",))
        self.assertEqual(house, House(("ann",), ("",), {"ann": "back"}))

    def test_len_is_the_number_of_boxes(self):
        for boxes in range(2, 7):
            self.assertEqual(len(House(("ann", "bob"), ("",) * boxes, all_back(("ann", "bob")))), boxes)

    def test_names_at_the_limits(self):
        for names in (("a",), ("z",), ("abcdefgh",), ("stuvwxyz",), ("a", "aa", "ab"), SIX):
            with self.subTest(names):
                self.assertEqual(House(names, ("",) * len(names), all_back(names)).names, names)

    def test_plates_at_the_limits(self):
        for plates in (("",), ("........",), ("abcdefgh",), ("z",), (".",), ("a.z", "", ".y."), ("x",) * 6):
            with self.subTest(plates):
                self.assertEqual(House(("ann",), plates, {"ann": "back"}).plates, plates)

    def test_manners_of_every_kind(self):
        for manner in ("back", "keep", (None, None), (0, 0), (2, 2), (None, 1), (2, None)):
            with self.subTest(manner):
                house = House(("ann", "bob"), ("", "", ""), {"ann": manner, "bob": "back"})
                self.assertEqual(house.manners["ann"], manner)


class WrongHousesTest(unittest.TestCase):
    def check_part(self, part, names, plates, manners):
        with self.subTest(names=names, plates=plates, manners=manners):
            with self.assertRaises(InvalidHouse) as caught:
                House(names, plates, manners)
            self.assertEqual(caught.exception.part, part)

    def test_wrong_names(self):
        wrong = [(), tuple("abcdefg"), ("bob", "ann"), ("a", "c", "b"), ("ann", "ann"), ("a", "b", "b")]
        wrong += [("ab", "a"), ["ann"], "ann", None]
        for names in wrong:
            self.check_part("names", names, ("",) * 6, all_back(names or ()))

    def test_names_that_are_no_words(self):
        words = ["", "abcdefghi", "Ann", "ANN", "a n", "a.", ".", "an1", "an-", "a_n", "ann ", " ann", "ann\n"]
        for word in words + ["\u00e4nn", "\u0430", "\u00aa", 7, None, True, b"ann", ("a",)]:
            self.check_part("names", (word,), ("",), {word: "back"})
            self.check_part("names", ("aa", word), ("", ""), {"aa": "back", word: "back"})
            self.check_part("names", (word, "zz"), ("", ""), {word: "back", "zz": "back"})

    def test_wrong_plates(self):
        names = ("ann", "bob")
        for plates in ((), ("",), ("",) * 7, ("a",) * 7, ["", ""], "..", None):
            self.check_part("plates", names, plates, all_back(names))
        self.check_part("plates", SIX, ("",) * 5, all_back(SIX))

    def test_plates_that_are_no_patterns(self):
        names = ("ann", "bob")
        plates = [".........", "abcdefghi", "B..", "b.?", "b *", " ", "-", "b-b", "b1", "b..\n", "\u00e4", "\u2024"]
        for plate in plates + [None, 0, True, b"b..", (".",)]:
            self.check_part("plates", names, (plate, ""), all_back(names))
            self.check_part("plates", names, ("", "", plate), all_back(names))

    def test_manners_of_other_names(self):
        names, plates = ("ann", "bob"), ("", "")
        lacking = [{}, {"ann": "back"}, {"bob": "back"}]
        others = [{"ann": "back", "eve": "back"}, all_back(("ann", "bob", "eve")), {"ann": "back", "Bob": "back"}]
        for manners in lacking + others + [{"ann": "back", "": "back"}, [], None, ("back", "back"), "back"]:
            self.check_part("manners", names, plates, manners)

    def test_wrong_words(self):
        for word in ("", "Back", "KEEP", "guess", "backk", "back ", "bac", "kept", None, True, 0, b"back"):
            self.check_part("manners", ("ann", "bob"), ("", ""), {"ann": word, "bob": "back"})
            self.check_part("manners", ("ann", "bob"), ("", ""), {"ann": "keep", "bob": word})

    def test_wrong_guesses(self):
        wrong = [(), (0,), (None,), (0, 1, 2), (None, None, None), (0, 3), (3, 0), (-1, 0), (0, -1), [0, 1]]
        wrong += [(True, 0), (0, False), ("0", 0), ("ann", "bob"), ((0,), 1), ("back", "keep"), (0, 1.0), (0, "")]
        for guess in wrong:
            self.check_part("manners", ("ann", "bob"), ("", "", ""), {"ann": guess, "bob": "back"})
            self.check_part("manners", ("ann", "bob"), ("", "", ""), {"ann": "back", "bob": guess})

    def test_a_guess_for_the_own_name_must_be_a_box_as_well(self):
        for own in (1, -1, True, False, "ann"):
            self.check_part("manners", ("ann",), ("",), {"ann": (own,)})

    def test_boxes_of_a_guess_are_counted_by_the_plates(self):
        House(("ann",), ("", "", ""), {"ann": (2,)})
        self.check_part("manners", ("ann",), ("", ""), {"ann": (2,)})

    def test_the_first_wrong_parameter_counts(self):
        self.check_part("names", (), (), {"ann": "back"})
        self.check_part("names", ("bob", "ann"), ("",), {"ann": "no"})
        self.check_part("names", ("bob", "ann"), ("", ""), {"ann": "no"})
        self.check_part("names", ("Ann",), ("?",), {"Ann": "back"})
        self.check_part("plates", ("ann",), ("?",), {})
        self.check_part("plates", ("ann", "bob"), ("",), {"ann": (0, 5), "bob": "no"})
        self.check_part("plates", ("ann",), ("",) * 7, {"ann": (6,)})


class OwnDictsTest(unittest.TestCase):
    def test_manners_are_in_the_order_of_the_names(self):
        house = House(("a", "b", "c"), ("", "", ""), {"c": "back", "a": "keep", "b": (0, 1, 2)})
        self.assertEqual(list(house.manners.items()), [("a", "keep"), ("b", (0, 1, 2)), ("c", "back")])

    def test_each_reading_gives_a_new_dict(self):
        house = small_house()
        read = house.manners
        self.assertIsNot(read, house.manners)
        read["ann"] = "back"
        del read["bob"]
        self.assertEqual(list(house.manners.items()), [("ann", (None, 2)), ("bob", "keep")])
        self.assertEqual(house, small_house())

    def test_the_dict_that_was_passed_is_neither_kept_nor_changed(self):
        passed = {"bob": "keep", "ann": (None, 2)}
        house = House(("ann", "bob"), ("", "b..", ""), passed)
        self.assertEqual(list(passed.items()), [("bob", "keep"), ("ann", (None, 2))])
        passed["ann"] = "back"
        passed.clear()
        self.assertEqual(house.manners, {"ann": (None, 2), "bob": "keep"})
        house.manners.clear()
        self.assertEqual(house, small_house())

    def test_a_dict_that_is_not_right_is_not_changed(self):
        passed = {"eve": "back", "ann": "no"}
        with self.assertRaises(InvalidHouse):
            House(("ann", "bob"), ("", ""), passed)
        self.assertEqual(list(passed.items()), [("eve", "back"), ("ann", "no")])


class EqualHousesTest(unittest.TestCase):
    def test_equal_in_all_three(self):
        one = House(("ann", "bob"), ("", "b.."), {"ann": (None, 1), "bob": "keep"})
        other = House(("ann", "bob"), ("", "b.."), {"bob": "keep", "ann": (None, 1)})
        self.assertIs(one == other, True)
        self.assertIs(one != other, False)
        self.assertIs(one == one, True)

    def test_unequal_in_one_of_them(self):
        manners = {"ann": (None, 1), "bob": "keep"}
        one = House(("ann", "bob"), ("", "b.."), manners)
        others = [
            House(("ann", "bo"), ("", "b.."), {"ann": (None, 1), "bo": "keep"}),
            House(("ann", "bob"), ("", "b.b"), manners),
            House(("ann", "bob"), ("b..", ""), manners),
            House(("ann", "bob"), ("", "b..", ""), manners),
            House(("ann", "bob"), ("", "b.."), {"ann": (None, 1), "bob": "back"}),
            House(("ann", "bob"), ("", "b.."), {"ann": (None, None), "bob": "keep"}),
        ]
        for other in others:
            self.assertIs(one == other, False)
            self.assertIs(one != other, True)

    def test_a_guess_for_the_own_name_counts(self):
        def with_own(box):
            return House(("ann", "bob"), ("", ""), {"ann": (box, 1), "bob": "back"})

        self.assertEqual(with_own(0), with_own(0))
        self.assertNotEqual(with_own(0), with_own(None))
        self.assertNotEqual(with_own(0), with_own(1))

    def test_unequal_to_other_values(self):
        house = House(("ann",), ("",), {"ann": "back"})
        for other in (None, 1, "ann", ("ann",), (("ann",), ("",), {"ann": "back"})):
            self.assertIs(house == other, False)


if __name__ == "__main__":
    unittest.main()
