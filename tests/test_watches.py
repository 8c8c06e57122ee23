"""Point 26: letters that are watched, and what of point 1 concerns them."""

import random

from lostplates import watches
from lostplates.errors import Ended, InvalidBox, InvalidLog, NoOrder, PlateError, UnknownName
from lostplates.houses import House
from lostplates.watches import Watch
from tests.example_runner import outcome
from tests.samples import (
    NO_BOXES, NO_NAMES, PlateTest, house_of, sample_houses, sample_log, shown, spoil, told_possible, told_way,
)

EXAMPLE_WATCH = """
>>> from lostplates.houses import House
>>> from lostplates.watches import Watch
>>> house = House(("ant", "bee"), ("", "b..", ""), {"ant": (None, 1), "bee": "back"})
>>> watch = Watch(house, [], "bee", 0)
>>> [watch.orders_left, watch.next_boxes(), watch.words(), watch.came(1), watch.ended("kept"), watch.told_word]
[((0, 1), (2, 1)), [1], ['kept', 'lies'], 1, 1, 'kept']
"""

WORDS = ("back", "kept", "lies", "round")
NO_WORDS = ("", "lost", "Kept", "keep", None, 0, True, ("kept",), ["kept"], {})


def trio():
    return house_of(("ann", "bob"), ("", "", ""))


def unlivable():
    return house_of(("ann", "bob"), ("c..", "", ""))


def guessing():
    """A letter for c that is put in box 0 is kept in all orders, by several ways."""
    manners = {"a": (None, None, 1), "b": (None, None, 2), "c": "back"}
    return House(("a", "b", "c"), ("",) * 3, manners)


def wide():
    """Behind box 0 lives a, who hands a letter for c on, b, who puts it back, c, or nobody."""
    return House(("a", "b", "c"), ("",) * 4, {"a": (None, None, 1), "b": (None, None, 0), "c": "back"})


def circle():
    """In the order (0, 1, 2) a letter for c goes round by boxes 0 and 1."""
    manners = {"a": (None, None, 1), "b": (None, None, 0), "c": "back"}
    return House(("a", "b", "c"), ("",) * 3, manners)


def looks(watch):
    return watch.orders_left, watch.seen_boxes, watch.told_word, watch.next_boxes(), watch.words()


def told_looks(house, log, name, seen, word):
    """What point 26 says of a watch, by what it was told."""
    ways = {order: told_way(house, order, name, seen[0]) for order in told_possible(house, log)}
    many = len(seen)
    left = {
        order: way for order, way in ways.items() if way[0][:many] == seen and word in (None, way[1])
        and (word is None or len(way[0]) == many)
    }
    following = {way[0][many] for way in left.values() if way[0][many:]}
    return tuple(left), seen, word, sorted(following), sorted({way[1] for way in left.values()})


class WatchTest(PlateTest):
    def check_looks(self, watch, *wanted):
        """What can be read off a watch; lists may be changed by the caller."""
        for _ in range(2):
            found = looks(watch)
            self.assertEqual(shown(found), shown(wanted))
            spoil(found)

    def check_unchanged_by(self, watch, error, method, *args):
        before = shown(looks(watch))
        self.check_error(error, getattr(watch, method), *args)
        self.assertEqual(shown(looks(watch)), before)


class ExamplesTest(WatchTest):
    def test_examples(self):
        got, wanted = outcome(EXAMPLE_WATCH)
        self.assertEqual(got, wanted)

    def test_interface_is_defined_in_the_file(self):
        self.check_defined(watches, "Watch")
        for name in ("came", "ended", "next_boxes", "words"):
            self.assertEqual(Watch.__dict__[name].__qualname__, "Watch." + name)
        for name in ("orders_left", "seen_boxes", "told_word"):
            self.assertIsInstance(Watch.__dict__[name], property)


class BeginningTest(WatchTest):
    def test_properties(self):
        watch = Watch(trio(), [("ann", 0, 0)], "bob", 0)
        self.check_looks(watch, ((1, 0), (2, 0)), (0,), None, [], ["kept"])
        watch = Watch(trio(), [], "ann", 1)
        every = ((0, 1), (0, 2), (1, 0), (1, 2), (2, 0), (2, 1))
        self.check_looks(watch, every, (1,), None, [], ["back", "kept", "lies"])

    def test_parameters_by_keyword(self):
        watch = Watch(house=trio(), log=[("ann", 0, 0)], name="bob", box=0)
        self.check_looks(watch, ((1, 0), (2, 0)), (0,), None, [], ["kept"])

    def test_what_is_handed_in_stays_as_it_was_and_is_not_kept(self):
        house, log = wide(), [("c", 0, None)]
        before = shown((house, log))
        watch = Watch(house, log, "c", 0)
        wanted = looks(watch)
        watch.ended("kept")
        self.assertEqual(shown((house, log)), before)
        watch = Watch(house, log, "c", 0)
        log.append(("cat", 0, 0))
        self.check_looks(watch, *wanted)

    def test_wrong_logs(self):
        for name in NO_NAMES:
            self.check_error(InvalidLog, Watch, trio(), [("ann", 0, 0), (name, 0, 0)], "ann", 0, index=1)
            self.check_error(InvalidLog, Watch, trio(), [(name, 0, 0)], "cat", 3, index=0)
        for box in NO_BOXES:
            self.check_error(InvalidLog, Watch, unlivable(), [("ann", box, 0)], "cat", 0, index=0)
        for told in (7, -1, True, "0"):
            self.check_error(InvalidLog, Watch, trio(), [("ann", 0, told)], "ann", 3, index=0)

    def test_unknown_names(self):
        for name in NO_NAMES:
            for box in (0, 3):
                self.check_error(UnknownName, Watch, trio(), [], name, box)
                self.check_error(UnknownName, Watch, unlivable(), [], name, box)

    def test_wrong_boxes(self):
        for box in NO_BOXES:
            self.check_error(InvalidBox, Watch, trio(), [], "ann", box)
            self.check_error(InvalidBox, Watch, unlivable(), [], "ann", box)

    def test_no_order_is_possible(self):
        self.check_error(NoOrder, Watch, unlivable(), [], "ann", 0)
        self.check_error(NoOrder, Watch, trio(), [("ann", 0, 5)], "ann", 0)


class CameTest(WatchTest):
    def test_boxes_that_can_come_next(self):
        watch = Watch(guessing(), [], "c", 0)
        every = ((0, 1, 2), (0, 2, 1), (1, 0, 2), (1, 2, 0), (2, 0, 1), (2, 1, 0))
        self.check_looks(watch, every, (0,), None, [1, 2], ["kept"])
        self.assertEqual(watch.came(1), 2)
        self.check_looks(watch, ((0, 1, 2), (0, 2, 1)), (0, 1), None, [2], ["kept"])
        self.assertEqual(watch.came(2), 1)
        self.check_looks(watch, ((0, 1, 2),), (0, 1, 2), None, [], ["kept"])

    def test_boxes_that_cannot_come_next(self):
        watch = Watch(guessing(), [], "c", 1)
        self.check_looks(watch, tuple(told_possible(guessing(), [])), (1,), None, [2], ["back", "kept", "round"])
        for box in NO_BOXES + (0,):
            self.check_unchanged_by(watch, NoOrder, "came", box)
        self.assertEqual(watch.came(2), 2)
        for box in NO_BOXES + (0,):
            self.check_unchanged_by(watch, NoOrder, "came", box)

    def test_a_boolean_is_no_box(self):
        watch = Watch(guessing(), [], "c", 0)
        self.check_unchanged_by(watch, NoOrder, "came", True)
        self.assertEqual(watch.came(1), 2)
        house = House(("a", "b"), ("", ""), {"a": (None, 0), "b": "back"})
        watch = Watch(house, [], "b", 1)
        self.check_unchanged_by(watch, NoOrder, "came", False)
        self.assertEqual(shown([watch.came(0), watch.seen_boxes]), shown([1, (1, 0)]))

    def test_never_for_the_second_time(self):
        watch = Watch(circle(), [], "c", 0)
        self.check_unchanged_by(watch, NoOrder, "came", 0)
        self.assertEqual(watch.came(1), 2)
        self.check_unchanged_by(watch, NoOrder, "came", 0)
        self.check_unchanged_by(watch, NoOrder, "came", 1)
        self.assertEqual(watch.ended("round"), 1)

    def test_behind_the_end(self):
        for word in ("back", "kept"):
            watch = Watch(wide(), [], "c", 0)
            watch.ended(word)
            for box in NO_BOXES + (0, 1, 2):
                self.check_unchanged_by(watch, Ended, "came", box)


class EndedTest(WatchTest):
    def test_each_word(self):
        for word in ("kept", "back", "lies"):
            watch = Watch(wide(), [], "c", 0)
            self.assertEqual(watch.ended(word), 6)
            self.check_looks(watch, watch.orders_left, (0,), word, [], [word])
            self.assertEqual([told_way(wide(), order, "c", 0) for order in watch.orders_left], [((0,), word)] * 6)
        # And from box 0 on to box 1, where b, c or nobody lives.
        for word, left in (("round", ((0, 1, 2), (0, 1, 3))), ("kept", ((0, 2, 1), (0, 3, 1))),
                           ("lies", ((0, 2, 3), (0, 3, 2)))):
            watch = Watch(wide(), [], "c", 0)
            self.assertEqual([watch.came(1), watch.ended(word)], [6, 2])
            self.check_looks(watch, left, (0, 1), word, [], [word])

    def test_just_the_boxes_told(self):
        # The letter is kept in all orders, but in box 0 only in two of them.
        watch = Watch(guessing(), [], "c", 0)
        self.assertEqual(watch.ended("kept"), 2)
        self.check_looks(watch, ((1, 2, 0), (2, 1, 0)), (0,), "kept", [], ["kept"])

    def test_words_that_cannot_be(self):
        watch = Watch(guessing(), [], "c", 0)
        for word in NO_WORDS + ("lies", "round", "back"):
            self.check_unchanged_by(watch, NoOrder, "ended", word)
        watch.came(1)
        for word in NO_WORDS + ("lies", "round", "back"):
            self.check_unchanged_by(watch, NoOrder, "ended", word)
        self.assertEqual(watch.ended("kept"), 1)

    def test_words_at_the_end_of_more_boxes_only(self):
        watch = Watch(circle(), [], "c", 0)
        self.assertIn("round", watch.words())
        self.check_unchanged_by(watch, NoOrder, "ended", "round")

    def test_for_the_second_time(self):
        for word in ("kept", "back"):
            watch = Watch(wide(), [], "c", 0)
            self.assertEqual(watch.ended(word), 6)
            for other in NO_WORDS + WORDS:
                self.check_unchanged_by(watch, Ended, "ended", other)

    def test_an_error_does_not_end_it(self):
        watch = Watch(guessing(), [], "c", 0)
        self.check_unchanged_by(watch, NoOrder, "ended", "round")
        self.assertEqual([watch.came(1), watch.ended("kept")], [2, 1])


class DocumentTest(WatchTest):
    def test_against_the_words_of_the_document(self):
        rng = random.Random(48)
        found = {}
        for house in sample_houses(250, 48):
            log = sample_log(rng, house, rng.randint(0, 2))
            name, box = rng.choice(house.names), rng.randrange(len(house))
            if not told_possible(house, log):
                self.check_error(NoOrder, Watch, house, log, name, box)
                continue
            watch, seen, word = Watch(house, log, name, box), (box,), None
            for _ in range(8):
                self.check_looks(watch, *told_looks(house, log, name, seen, word))
                told = rng.choice(list(range(len(house))) + list(WORDS) + watch.next_boxes() * 4)
                ends = isinstance(told, str)
                later = (seen, told) if ends else (seen + (told,), None)
                wanted = told_looks(house, log, name, *later)
                try:
                    got = (watch.ended if ends else watch.came)(told)
                except PlateError as error:
                    got = type(error)
                self.assertEqual(got, Ended if word else len(wanted[0]) or NoOrder)
                if wanted[0] and not word:
                    seen, word = later
                found[got if isinstance(got, type) else ends] = True
        self.assertEqual(set(found), {True, False, Ended, NoOrder})
