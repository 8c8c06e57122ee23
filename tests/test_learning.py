"""Points 19 and 20: households that learn, and what of point 1 concerns them."""

import random

from lostplates import learning
from lostplates.errors import InvalidLetters, InvalidNumber, InvalidOrder
from lostplates.houses import House
from lostplates.learning import first_kept, settled_after, taught, taught_far
from tests.example_runner import outcome
from tests.samples import (
    NO_BOXES, NO_NAMES, NO_ORDERS, PlateTest, every_letter, every_order, house_of, sample_houses, told_put,
)

EXAMPLE_LEARNING = """
>>> from lostplates.houses import House
>>> from lostplates.learning import first_kept, settled_after, taught, taught_far
>>> house = House(("ant", "bee"), ("", "b..", ""), {"ant": (None, 2), "bee": "back"})
>>> later, words = taught(house, (0, 1), (("bee", 0),))
>>> told = [words, later.manners["ant"], taught_far(house, (0, 1), (("bee", 0),), 10 ** 18)[1:]]
>>> told + [settled_after(house, (0, 1), (("bee", 0),)), first_kept(house, (0, 1), (("ant", 0),), 0)]
[('lies',), (None, 2), (0, 1000000000000000000), 0, 0]
"""

EXAMPLE_WRONG_LETTER = """
>>> from lostplates.houses import House
>>> from lostplates.learning import taught
>>> house = House(("ant", "bee"), ("", "b..", ""), {"ant": (None, 0), "bee": "back"})
>>> taught(house, (0, 1), (("bee", 0), ("cat", 0)))
raises InvalidLetters(index=1)
"""

FAR = 10 ** 18
WRONG_LETTERS = [(name, 0) for name in NO_NAMES] + [("ann", box) for box in NO_BOXES]
WRONG_LETTERS += [("ann",), (), ("ann", 0, 0), (0, "ann"), ["ann", 0], "ann", None, 0]


def duo():
    return house_of(("ann", "bob"), ("", "", ""))


def chain(last, **others):
    """In the order (0, 1, 2, 3, 4) a letter for e goes from box 0 on through those of a, b, c and d, who does so."""
    manners = {"a": (5, 5, 5, 5, 1), "b": (5, 5, 5, 5, 2), "c": (5, 5, 5, 5, 3), "d": last, "e": "keep"}
    return House(("a", "b", "c", "d", "e"), ("",) * 6, {**manners, **others})


STRAIGHT = (0, 1, 2, 3, 4)


def told_round(house, order, letters):
    words, total = [], 0
    for letter in letters:
        house, word, handed = told_put(house, order, *letter)
        words.append(word)
        total += handed
    return house, tuple(words), total


def told_far(house, order, letters, count):
    """Many rounds, with a look for one at whose beginning the house is as it was before."""
    seen, kept, handed = [], [0], [0]
    while house not in seen and len(seen) < count:
        seen.append(house)
        house, words, times = told_round(house, order, letters)
        kept.append(kept[-1] + words.count("kept"))
        handed.append(handed[-1] + times)
    if len(seen) == count:
        return house, kept[count], handed[count]
    start = seen.index(house)
    times, rest = divmod(count - start, len(seen) - start)
    sums = [row[start + rest] + times * (row[-1] - row[start]) for row in (kept, handed)]
    return (seen[start + rest], *sums)


def told_settled(house, order, letters):
    for count in range(40):
        later = told_round(house, order, letters)[0]
        if later == house:
            return count
        house = later
    return None


def told_first(house, order, letters, index):
    for count in range(40):
        house, words, _ = told_round(house, order, letters)
        if words[index] == "kept":
            return count
    return None


def samples(seed, many):
    rng = random.Random(seed)
    found = []
    for house in sample_houses(many, seed, most_names=5, most_boxes=6):
        letters = tuple(rng.choices(every_letter(house), k=rng.randint(0, 12)))
        found.append((house, rng.choice(every_order(house)), letters))
    return found


class ExamplesTest(PlateTest):
    def test_examples(self):
        for example in (EXAMPLE_LEARNING, EXAMPLE_WRONG_LETTER):
            got, wanted = outcome(example)
            self.assertEqual(got, wanted)

    def test_interface_is_defined_in_the_file(self):
        self.check_defined(learning, "taught", "taught_far", "settled_after", "first_kept")


class ErrorsTest(PlateTest):
    def check_all(self, error, house, order, letters, **attributes):
        self.check_error(error, taught, house, order, letters, **attributes)
        self.check_error(error, settled_after, house, order, letters, **attributes)
        # Whether or not what comes behind is right.
        for number in (0, -1):
            self.check_error(error, taught_far, house, order, letters, number, **attributes)
            self.check_error(error, first_kept, house, order, letters, number, **attributes)

    def test_no_order(self):
        for order in NO_ORDERS:
            self.check_all(InvalidOrder, duo(), order, (("ann", 0),))
            self.check_all(InvalidOrder, duo(), order, (("cat", 0),))

    def test_the_index_of_the_first_wrong_letter(self):
        for wrong in WRONG_LETTERS:
            self.check_all(InvalidLetters, duo(), (0, 1), (wrong,), index=0)
            self.check_all(InvalidLetters, duo(), (0, 1), (("ann", 2), ("bob", 0), wrong, ("ann", 9)), index=2)

    def test_the_thirteenth_letter(self):
        twelve = (("ann", 0), ("bob", 2)) * 6
        self.check((duo(), ("kept", "lies") * 6), taught, duo(), (0, 1), twelve)
        for more in ((("ann", 0),), (("cat", 9),), (("ann", 0),) * 5):
            self.check_all(InvalidLetters, duo(), (0, 1), twelve + more, index=12)
        self.check_all(InvalidLetters, duo(), (0, 1), twelve[:11] + (("ann", 3), ("ann", 0)), index=11)

    def test_count(self):
        for count in (-1, FAR + 1, -FAR, True, False, None):
            self.check_error(InvalidNumber, taught_far, duo(), (0, 1), (("ann", 0),), count)

    def test_index(self):
        letters = (("ann", 0), ("bob", 0))
        for index in (-1, 2, 3, 12, True, False, None):
            self.check_error(InvalidNumber, first_kept, duo(), (0, 1), letters, index)
        self.check_error(InvalidNumber, first_kept, duo(), (0, 1), (), 0)


class TaughtTest(PlateTest):
    def test_no_letters(self):
        self.check((chain("back"), ()), taught, chain("back"), STRAIGHT, ())

    def test_kept(self):
        # All those that handed it on learn; e, who kept it, did not hand it on.
        learned = (5, 5, 5, 5, 4)
        house = chain((None, None, None, None, 4))
        later = chain((None, None, None, None, 4), a=learned, b=learned, c=learned)
        self.check((later, ("kept",)), taught, house, STRAIGHT, (("e", 0),))
        self.check((chain((None, None, None, None, 4), c=learned), ("kept",)), taught, house, STRAIGHT, (("e", 2),))
        self.check((house, ("kept",)), taught, house, STRAIGHT, (("e", 3),))
        self.check((house, ("kept",)), taught, house, STRAIGHT, (("e", 4),))

    def test_came_back(self):
        # The last one, who put it back, did not hand it on.
        learned = (5, 5, 5, 5, None)
        for last in ("back", (1, 2, 3, 4, None), (1, 2, 3, 4, 3)):
            later = chain(last, a=learned, b=learned, c=learned)
            self.check((later, ("back",)), taught, chain(last), STRAIGHT, (("e", 0),))
            self.check((chain(last), ("back",)), taught, chain(last), STRAIGHT, (("e", 3),))

    def test_lies(self):
        self.check((chain("keep"), ("lies",)), taught, chain("keep"), STRAIGHT, (("e", 0),))
        house = chain((1, 2, 3, 4, 4))
        self.check((house, ("lies",)), taught, house, (0, 1, 2, 3, 5), (("e", 0),))

    def test_goes_round(self):
        for again in (0, 1, 2):
            house = chain((1, 2, 3, 4, again))
            self.check((house, ("round",)), taught, house, STRAIGHT, (("e", 0),))

    def test_only_the_guess_for_the_name_of_the_letter(self):
        house = House(("a", "b", "c"), ("",) * 4, {"a": (3, 3, 1), "b": (0, 1, 2), "c": "back"})
        later = House(("a", "b", "c"), ("",) * 4, {"a": (3, 3, 2), "b": (0, 1, 2), "c": "back"})
        self.check((later, ("kept",)), taught, house, (0, 1, 2), (("c", 0),))

    def test_box_0_is_learned(self):
        house = House(("a", "b", "c"), ("",) * 3, {"a": "keep", "b": (0, None, None), "c": (1, None, None)})
        later = House(("a", "b", "c"), ("",) * 3, {"a": "keep", "b": (0, None, None), "c": (0, None, None)})
        self.check((later, ("kept",)), taught, house, (0, 1, 2), (("a", 2),))

    def test_learned_between_two_letters(self):
        house = House(("a", "b", "c"), ("",) * 3, {"a": "back", "b": (None, None, 0), "c": "keep"})
        later = House(("a", "b", "c"), ("",) * 3, {"a": "back", "b": (None, None, None), "c": "keep"})
        self.check((later, ("back",) * 2), taught, house, (0, 1, 2), (("c", 1), ("c", 1)))
        house = chain((5, 5, 5, 5, 0), a=(5, 5, 5, 5, 3), b=(5, 5, 5, 5, 4))
        later = chain((5, 5, 5, 5, 0), a=(5, 5, 5, 5, 3), b=(5, 5, 5, 5, 4))
        self.check((later, ("round", "kept", "round")), taught, house, STRAIGHT, (("e", 0), ("e", 1), ("e", 3)))
        house = House(("a", "b", "c"), ("",) * 4, {"a": (0, 0, 1), "b": (0, 0, 3), "c": (1, 0, 0)})
        self.check((house, ("lies", "kept", "lies")), taught, house, (0, 1, 2), (("c", 0), ("a", 1), ("c", 1)))

    def test_what_one_letter_tells_changes_the_way_of_the_next(self):
        # Behind the first letter a hands letters for c straight on to c, and b is not asked any more.
        house = House(("a", "b", "c"), ("",) * 3, {"a": (0, 0, 1), "b": (0, 0, 2), "c": "back"})
        self.assertEqual(taught_far(house, (0, 1, 2), (("c", 0), ("c", 0)), 1)[1:], (2, 3))

    def test_orders_that_do_not_fit(self):
        house = House(("a", "b"), ("b", "", ""), {"a": (0, 2), "b": "back"})
        later = House(("a", "b"), ("b", "", ""), {"a": (0, 2), "b": "back"})
        self.check((later, ("kept",)), taught, house, (0, 2), (("b", 0),))

    def test_against_the_words_of_the_document(self):
        words = {}
        for house, order, letters in samples(34, 250):
            wanted = told_round(house, order, letters)
            self.check(wanted[:2], taught, house, order, letters)
            words.update({word: True for word in wanted[1]})
        self.assertEqual(set(words), {"kept", "lies", "back", "round"})


class TaughtFarTest(PlateTest):
    def test_no_round(self):
        self.check((chain("back"), 0, 0), taught_far, chain("back"), STRAIGHT, (("e", 0),), 0)
        self.check((chain("back"), 0, 0), taught_far, chain("back"), STRAIGHT, (), 0)
        self.check((chain("back"), 0, 0), taught_far, chain("back"), STRAIGHT, (), FAR)

    def test_few_rounds(self):
        learned = (5, 5, 5, 5, 4)
        house = chain((5, 5, 5, 5, 4))
        later = chain((5, 5, 5, 5, 4), a=learned, b=learned, c=learned)
        self.check((later, 1, 4), taught_far, house, STRAIGHT, (("e", 0),), 1)
        self.check((later, 2, 5), taught_far, house, STRAIGHT, (("e", 0),), 2)
        self.check((later, 5, 8), taught_far, house, STRAIGHT, (("e", 0),), 5)
        self.check((later, FAR, FAR + 3), taught_far, house, STRAIGHT, (("e", 0),), FAR)

    def test_letters_that_come_back(self):
        learned = (5, 5, 5, 5, None)
        later = chain("back", a=learned, b=learned, c=learned)
        self.check((later, 0, 3), taught_far, chain("back"), STRAIGHT, (("e", 0),), 1)
        self.check((later, 0, 3), taught_far, chain("back"), STRAIGHT, (("e", 0),), FAR)

    def test_letters_that_are_lost_are_handed_on_for_ever(self):
        self.check((chain("keep"), 0, 3 * FAR), taught_far, chain("keep"), STRAIGHT, (("e", 0),), FAR)
        house = chain((5, 5, 5, 5, 1))
        self.check((house, 0, 3 * FAR), taught_far, house, STRAIGHT, (("e", 0),), FAR)
        self.check((house, FAR, 5 * FAR), taught_far, house, STRAIGHT, (("e", 0), ("d", 3), ("e", 2)), FAR)

    def test_rounds_put_one_by_one(self):
        for house, order, letters in samples(35, 120):
            later, kept, handed = house, 0, 0
            for count in range(7):
                self.check((later, kept, handed), taught_far, house, order, letters, count)
                later, words, times = told_round(later, order, letters)
                kept, handed = kept + words.count("kept"), handed + times
            for count in (100, FAR - 1, FAR):
                self.check(told_far(house, order, letters, count), taught_far, house, order, letters, count)


class SettledAfterTest(PlateTest):
    def test_at_once(self):
        self.check(0, settled_after, duo(), (0, 1), ())
        self.check(0, settled_after, duo(), (0, 1), (("ann", 1), ("bob", 2)))
        self.check(0, settled_after, chain("keep"), STRAIGHT, (("e", 0),))
        self.check(0, settled_after, chain((5, 5, 5, 5, 4)), STRAIGHT, (("e", 3),))

    def test_one_round(self):
        self.check(1, settled_after, chain("back"), STRAIGHT, (("e", 0),))
        self.check(1, settled_after, chain((5, 5, 5, 5, 4)), STRAIGHT, (("e", 0), ("e", 0)))

    def test_every_house_settles(self):
        # What becomes of a letter tells the same to all that handed it on, so one round is enough.
        found = {}
        for house, order, letters in samples(36, 300):
            wanted = told_settled(house, order, letters)
            self.check(wanted, settled_after, house, order, letters)
            found[wanted] = True
        self.assertEqual(set(found), {0, 1})


class FirstKeptTest(PlateTest):
    def test_in_the_first_round(self):
        self.check(0, first_kept, duo(), (0, 1), (("ann", 0),), 0)
        self.check(0, first_kept, duo(), (0, 1), (("bob", 0), ("ann", 0)), 1)
        self.check(0, first_kept, chain((5, 5, 5, 5, 4)), STRAIGHT, (("e", 0),), 0)

    def test_never(self):
        self.check(None, first_kept, duo(), (0, 1), (("bob", 0), ("ann", 0)), 0)
        self.check(None, first_kept, chain("keep"), STRAIGHT, (("e", 0),), 0)
        self.check(None, first_kept, chain("back"), STRAIGHT, (("e", 0),), 0)
        self.check(None, first_kept, chain((5, 5, 5, 5, 1)), STRAIGHT, (("e", 0),), 0)

    def test_against_the_words_of_the_document(self):
        # A letter that is not kept at first is lost in each round, or put back by a household that never hands it on.
        found = {}
        for house, order, letters in samples(38, 150):
            for index in range(len(letters)):
                wanted = told_first(house, order, letters, index)
                self.check(wanted, first_kept, house, order, letters, index)
                found[wanted] = True
        self.assertEqual(set(found), {None, 0})
