"""Points 14, 15 and 16: manners, and what of point 1 concerns them."""

import random

from lostplates import manners
from lostplates.errors import InvalidLog, InvalidManners, InvalidOrder, UnknownName
from lostplates.houses import House
from lostplates.manners import best_informed, kept_by_hand, never_lost, possible_manners, surely_kept, trusty
from tests.example_runner import outcome
from tests.samples import (
    NO_NAMES, NO_ORDERS, PlateTest, every_letter, every_order, fitting, house_of, sample_houses, sample_log,
    sample_manner, told_possible, told_way,
)

EXAMPLE_MANNERS = """
>>> from lostplates.houses import House
>>> from lostplates.manners import best_informed, kept_by_hand, never_lost, possible_manners, surely_kept, trusty
>>> house = House(("ann", "bob"), ("a..", ""), {"ann": (1, 1), "bob": "back"})
>>> told = [kept_by_hand(house, "bob"), trusty(house, (0, 1)), best_informed(house), surely_kept(house, "bob")]
>>> [told, never_lost(house), possible_manners(house, [("bob", 0, 0)], "ann", ("back", "keep", (None, None), (0, 1)))]
[[[0], ('ann',), (1, 'ann'), [0, 1]], [('ann', 0), ('ann', 1), ('bob', 0), ('bob', 1)], [0, 2]]
"""

# No manners in a house with two names and three boxes.
WRONG_MANNERS = ["", "Back", "kept", "guess", None, True, 0, (), (0,), (0, 1, 2), [0, 1], (0, 3), (-1, 0), (True, 0)]
WRONG_MANNERS += [(0, False), ("0", 0), (0, "back"), ("back", "keep"), ("ann", None), ((0,), 1), (0, 6)]


def trio():
    return house_of(("ann", "bob"), ("", "", ""))


def unlivable():
    return house_of(("ann", "bob"), ("c..", "", ""))


def guessing(ann, bob="back", plates=("", "", "")):
    return House(("ann", "bob"), plates, {"ann": ann, "bob": bob})


def told_right(house, order, name):
    """What point 15 says of a guess; None for a household with none."""
    guess = house.manners[name]
    if guess in ("back", "keep"):
        return None
    rows = [(told, box) for other, told, box in zip(house.names, guess, order) if other != name]
    return not [told for told, box in rows if told not in (None, box)]


class ExamplesTest(PlateTest):
    def test_examples(self):
        got, wanted = outcome(EXAMPLE_MANNERS)
        self.assertEqual(got, wanted)

    def test_interface_is_defined_in_the_file(self):
        names = ("possible_manners", "kept_by_hand", "trusty", "best_informed", "surely_kept", "never_lost")
        self.check_defined(manners, *names)


class PossibleMannersTest(PlateTest):
    def test_back_keep_and_guesses(self):
        house = guessing("back", plates=("a..", "", "b.."))
        choices = ("back", "keep", (None, None), (1, 1), (1, 2), (2, 0))
        self.check([0, 2, 5], possible_manners, house, [("bob", 0, 0)], "ann", choices)
        self.check([1, 3, 4], possible_manners, house, [("bob", 0, None)], "ann", choices)
        self.check([], possible_manners, house, [("bob", 0, 1)], "ann", choices)

    def test_all_and_none(self):
        choices = ("keep", (0, 0), "back")
        self.check([0, 1, 2], possible_manners, trio(), [], "ann", choices)
        self.check([0, 1, 2], possible_manners, trio(), [], "bob", choices)
        self.check([], possible_manners, trio(), [("ann", 0, 6)], "ann", choices)
        self.check([], possible_manners, unlivable(), [], "ann", choices)
        self.check([], possible_manners, trio(), [], "ann", ())

    def test_its_own_manners_do_not_count(self):
        for own in ("back", "keep", (1, 1)):
            house = guessing(own, plates=("a..", "", "b.."))
            self.check([1], possible_manners, house, [("bob", 0, 0)], "ann", ("keep", "back"))

    def test_the_others_keep_theirs(self):
        house = guessing("back", (1, 1), ("a..", "", "b.."))
        self.check([0, 1], possible_manners, house, [("ann", 2, None)], "ann", ("back", "keep"))
        self.check([0], possible_manners, house, [("ann", 2, 0)], "bob", ("back", "keep"))

    def test_the_same_manners_twice(self):
        self.check([0, 1, 3], possible_manners, trio(), [("bob", 0, 0)], "ann", ("back", "back", "keep", "back"))

    def test_invalid_manners(self):
        for wrong in WRONG_MANNERS:
            self.check_error(InvalidManners, possible_manners, trio(), [], "ann", (wrong,), index=0)
            choices = ("back", (None, 2), wrong, "keep", wrong)
            self.check_error(InvalidManners, possible_manners, trio(), [], "ann", choices, index=2)
            self.check_error(InvalidManners, possible_manners, unlivable(), [], "bob", choices, index=2)

    def test_the_first_error_counts(self):
        wrong = [("ann", 0, 0), ("ann", 0, True)]
        self.check_error(InvalidLog, possible_manners, trio(), wrong, "cat", ("no",), index=1)
        for name in NO_NAMES:
            self.check_error(UnknownName, possible_manners, trio(), [], name, ("no",))

    def test_against_the_words_of_the_document(self):
        rng = random.Random(25)
        found = {}
        for house in sample_houses(80, 25):
            log = sample_log(rng, house, rng.randint(1, 4))
            name = rng.choice(house.names)
            choices = tuple(sample_manner(rng, len(house.names), len(house)) for _ in range(5))
            others = [House(house.names, house.plates, {**house.manners, name: choice}) for choice in choices]
            wanted = [at for at, other in enumerate(others) if told_possible(other, log)]
            self.check(wanted, possible_manners, house, log, name, choices)
            found[len(wanted)] = True
        self.assertLessEqual({0, 5}, set(found))
        self.assertGreater(len(found), 3)


class KeptByHandTest(PlateTest):
    def test_kept_at_once_is_not_by_hand(self):
        self.check([], kept_by_hand, trio(), "ann")
        self.check([], kept_by_hand, house_of(("ann",), ("", "")), "ann")

    def test_handed_on(self):
        self.check([0], kept_by_hand, guessing((0, 1), plates=("a..", "", "")), "bob")
        self.check([0, 2], kept_by_hand, guessing((0, 1)), "bob")
        self.check([], kept_by_hand, guessing((0, 1)), "ann")

    def test_several_boxes(self):
        house = House(("a", "b", "c"), ("a", "b", "c"), {"a": "back", "b": (2, 2, 2), "c": (0, 0, 0)})
        self.check([1, 2], kept_by_hand, house, "a")
        self.check([], kept_by_hand, house, "b")
        self.check([1], kept_by_hand, house, "c")

    def test_no_order_fits(self):
        self.check([], kept_by_hand, guessing((0, 1), plates=("c..", "", "")), "bob")

    def test_unknown_name(self):
        for name in NO_NAMES:
            self.check_error(UnknownName, kept_by_hand, trio(), name)
            self.check_error(UnknownName, kept_by_hand, unlivable(), name)

    def test_against_the_words_of_the_document(self):
        found = {}
        for house in sample_houses(80, 26):
            for name in house.names:
                letters = [(order, box) for order in fitting(house) for box in range(len(house))]
                ways = [(box, told_way(house, order, name, box)) for order, box in letters]
                wanted = sorted({box for box, (boxes, word) in ways if word == "kept" and boxes != (box,)})
                self.check(wanted, kept_by_hand, house, name)
                found[len(wanted)] = True
        self.assertLessEqual({0, 1, 2, 3}, set(found))


class TrustyTest(PlateTest):
    def test_right_and_wrong(self):
        self.check(("ann",), trusty, guessing((0, 1)), (0, 1))
        self.check((), trusty, guessing((0, 2)), (0, 1))
        self.check(("ann", "bob"), trusty, guessing((0, 1), (0, 1)), (0, 1))
        self.check(("bob",), trusty, guessing((0, 0), (0, 1)), (0, 1))

    def test_wrong_only_as_to_the_own_name(self):
        self.check(("ann", "bob"), trusty, guessing((2, 1), (0, 2)), (0, 1))
        self.check(("ann",), trusty, guessing((2, 1), (2, 1)), (0, 1))

    def test_none_is_never_wrong(self):
        self.check(("ann", "bob"), trusty, guessing((None, None), (None, None)), (0, 1))
        house = House(("a", "b", "c"), ("",) * 3, {"a": (None, None, 2), "b": (None, None, 1), "c": (0, None, None)})
        self.check(("a", "c"), trusty, house, (0, 1, 2))
        self.check(("b",), trusty, house, (2, 0, 1))

    def test_other_manners(self):
        self.check((), trusty, trio(), (0, 1))
        self.check((), trusty, house_of(("ann", "bob"), ("", ""), "keep"), (0, 1))

    def test_box_0(self):
        self.check((), trusty, guessing((None, 0)), (2, 1))
        self.check(("ann",), trusty, guessing((None, 0)), (2, 0))

    def test_orders_that_do_not_fit(self):
        self.check(("ann",), trusty, guessing((0, 1), plates=("c..", "", "")), (0, 1))
        self.check(("ann",), trusty, guessing((0, 1), plates=("b..", "", "")), (0, 1))

    def test_no_order(self):
        for order in NO_ORDERS:
            self.check_error(InvalidOrder, trusty, trio(), order)

    def test_against_the_words_of_the_document(self):
        for house in sample_houses(50, 27):
            for order in every_order(house)[::3]:
                wanted = tuple(name for name in house.names if told_right(house, order, name))
                self.check(wanted, trusty, house, order)


class BestInformedTest(PlateTest):
    def test_no_household_has_a_guess(self):
        self.check(None, best_informed, trio())
        self.check(None, best_informed, unlivable())

    def test_the_most_orders(self):
        self.check((2, "ann"), best_informed, guessing((0, 1)))
        self.check((6, "bob"), best_informed, guessing((0, 1), (None, 0)))
        self.check((6, "ann"), best_informed, guessing((0, None), (0, 0)))

    def test_the_first_of_several(self):
        self.check((2, "ann"), best_informed, guessing((0, 1), (0, 1)))
        house = House(("a", "b", "c"), ("",) * 3, {"a": "back", "b": (0, 0, 0), "c": (1, 2, 0)})
        self.check((1, "c"), best_informed, house)
        house = House(("a", "b", "c"), ("",) * 3, {"a": "back", "b": (1, 2, 0), "c": (1, 2, 0)})
        self.check((1, "b"), best_informed, house)

    def test_right_in_none(self):
        self.check((0, "ann"), best_informed, guessing((0, 0), plates=("a..", "", "")))
        self.check((0, "bob"), best_informed, guessing("keep", (2, 0), ("a..", "", "")))
        self.check((0, "ann"), best_informed, guessing((0, 1), (0, 1), ("c..", "", "")))

    def test_against_the_words_of_the_document(self):
        for house in sample_houses(100, 28):
            counts = [
                (-sum(told_right(house, order, name) for order in fitting(house)), name)
                for name in house.names if isinstance(house.manners[name], tuple)
            ]
            wanted = (-min(counts)[0], min(counts)[1]) if counts else None
            self.check(wanted, best_informed, house)


class SurelyKeptTest(PlateTest):
    def test_in_all_orders(self):
        self.check([], surely_kept, trio(), "ann")
        self.check([1], surely_kept, house_of(("ann", "bob"), ("", "b.."), "keep"), "bob")
        self.check([0], surely_kept, house_of(("ann", "bob"), ("", "b..")), "ann")
        self.check([0, 1], surely_kept, guessing((None, 1), plates=("a..", "b..")), "bob")

    def test_no_order_fits(self):
        self.check([0, 1, 2], surely_kept, unlivable(), "ann")

    def test_unknown_name(self):
        for name in NO_NAMES:
            self.check_error(UnknownName, surely_kept, trio(), name)
            self.check_error(UnknownName, surely_kept, unlivable(), name)

    def test_against_the_words_of_the_document(self):
        for house in sample_houses(80, 29):
            for name in house.names:
                letters = [(order, box) for order in fitting(house) for box in range(len(house))]
                lost = {box for order, box in letters if told_way(house, order, name, box)[1] != "kept"}
                wanted = [box for box in range(len(house)) if box not in lost]
                self.check(wanted, surely_kept, house, name)


class NeverLostTest(PlateTest):
    def test_back_in_some_orders_and_kept_in_others(self):
        house = house_of(("ann", "bob"), ("", ""))
        self.check([("ann", 0), ("ann", 1), ("bob", 0), ("bob", 1)], never_lost, house)
        house = House(("ann", "bob"), ("", ""), {"ann": "keep", "bob": "back"})
        self.check([("ann", 0), ("ann", 1)], never_lost, house)

    def test_a_box_that_may_be_nobodys(self):
        self.check([], never_lost, trio())
        self.check([("ann", 0), ("bob", 0)], never_lost, house_of(("ann", "bob"), ("...", "", "")))

    def test_letters_that_go_round_are_lost(self):
        house = House(("a", "b", "c"), ("a", "b", "c"), {"a": "back", "b": (2, 2, 2), "c": (1, 1, 1)})
        wanted = [("a", 0), ("b", 0), ("b", 1), ("b", 2), ("c", 0), ("c", 1), ("c", 2)]
        self.check(wanted, never_lost, house)

    def test_no_order_fits(self):
        self.check(every_letter(unlivable()), never_lost, unlivable())

    def test_against_the_words_of_the_document(self):
        found = {}
        for house in sample_houses(80, 30):
            words = {
                letter: {told_way(house, order, *letter)[1] for order in fitting(house)}
                for letter in every_letter(house)
            }
            wanted = [letter for letter in every_letter(house) if words[letter] <= {"kept", "back"}]
            self.check(wanted, never_lost, house)
            found.update({tuple(sorted(words[letter])): True for letter in wanted})
        self.assertEqual(set(found), {(), ("back",), ("kept",), ("back", "kept")})
