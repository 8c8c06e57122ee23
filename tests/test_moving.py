"""Points 17 and 18: households that move, and what of point 1 concerns them."""

import random
from itertools import combinations

from lostplates import moving
from lostplates.errors import InvalidEvent, InvalidLog, InvalidNumber, NoOrder, UnknownName
from lostplates.houses import House
from lostplates.moving import fewest_moves, has_moved, orders_first, orders_then, story_count
from tests.example_runner import outcome
from tests.samples import (
    NO_BOXES, NO_NAMES, PlateTest, every_letter, fitting, house_of, sample_houses, sample_log, told_answer,
)

EXAMPLE_EVENTS = """
>>> from lostplates.houses import House
>>> from lostplates.moving import fewest_moves, has_moved, orders_then, story_count
>>> house = House(("ant", "bee"), ("", "b..", ""), {"ant": (None, 0), "bee": "back"})
>>> events = [("swaps",), ("letter", "bee", 1, 0)]
>>> [orders_then(house, [("move", "bee")]), story_count(house, [("moves",)]), orders_then(house, events)]
[[(0, 2), (2, 0)], 4, []]
"""

EXAMPLE_MOVED = """
>>> from lostplates.houses import House
>>> from lostplates.moving import fewest_moves, has_moved
>>> house = House(("ant", "bee"), ("", "b..", ""), {"ant": (None, 0), "bee": "back"})
>>> [has_moved(house, [("swap", "ant", "bee")], "ant"), fewest_moves(house, [("ant", 1, None), ("bee", 1, None)], 1)]
['surely', 1]
"""

EXAMPLE_WRONG_EVENT = """
>>> from lostplates.houses import House
>>> from lostplates.moving import orders_first
>>> house = House(("ant", "bee"), ("", "b..", ""), {"ant": (None, 0), "bee": "back"})
>>> orders_first(house, [("swaps",), ("swap", "ant", "ant")])
raises InvalidEvent(index=1)
"""

WRONG_EVENTS = (
    [("letter", name, 0, None) for name in NO_NAMES]
    + [("letter", "ann", box, None) for box in NO_BOXES]
    + [("letter", "ann", 0, told) for told in (7, -1, True, False, "0", "back")]
    + [("swap", name, "ann") for name in NO_NAMES]
    + [("swap", "ann", name) for name in NO_NAMES]
    + [("move", name) for name in NO_NAMES]
    + [("swap", "ann", "ann"), ("swap", "bob", "bob"), ("swap", "ann"), ("swap",), ("swap", "ann", "bob", "ann")]
    + [("letter", "ann", 0), ("letter", "ann"), ("letter",), ("letter", "ann", 0, 0, 0)]
    + [("move",), ("move", "ann", 1), ("move", "ann", "bob"), ("moves", "ann"), ("moves", 1), ("swaps", "ann", "bob")]
    + [("swaps", 1), (), ("",), ("stay",), ("Moves",), ("ann", 0, None), (None,), (0,), (("moves",),)]
    + [["moves"], ["swap", "ann", "bob"], "moves", "swaps", None, 0]
)


def trio():
    return house_of(("ann", "bob"), ("", "", ""))


def full():
    return house_of(("ann", "bob"), ("", ""))


def plated():
    """Only one order fits: ann lives in box 0 and bob in box 1."""
    return house_of(("ann", "bob"), ("a..", "b..", ""))


def unlivable():
    return house_of(("ann", "bob"), ("c..", "", ""))


def told_next(house, order, event):
    """What point 17 says of an event: the orders behind it, perhaps some of them twice."""
    word, *rest = event
    living = dict(zip(house.names, order))
    free = [box for box in range(len(house)) if box not in order]
    if word == "letter":
        return [order] * (told_answer(house, order, rest[0], rest[1]) == rest[2])
    if word in ("swap", "swaps"):
        pairs = [rest] if rest else combinations(house.names, 2)
        changes = [{one: living[other], other: living[one]} for one, other in pairs]
    else:
        changes = [{name: box} for name in (rest or house.names) for box in free]
    return [tuple({**living, **change}.values()) for change in changes]


def told_stories(house, events):
    """All tuples of orders by which events come about."""
    stories = {(order,) for order in fitting(house)}
    for event in events:
        stories = {story + (order,) for story in stories for order in told_next(house, story[-1], event)}
    return stories


def told_fewest(house, log, most):
    """The least number of exchanges with which a log comes about, all places for them tried."""
    for many in range(most + 1):
        for row in sorted({tuple(sorted(places)) for places in all_places(len(log) + 1, many)}):
            events = []
            for at, entry in enumerate(log):
                events += [("swaps",)] * row.count(at) + [("letter",) + entry]
            if told_stories(house, events + [("swaps",)] * row.count(len(log))):
                return many
    return None


def all_places(places, many):
    return [(place,) + rest for place in range(places) for rest in all_places(places, many - 1)] if many else [()]


def sample_events(rng, house, many):
    """Events that come about by some story, but for an answer that is just guessed now and then."""
    order = rng.choice(fitting(house) or [tuple(range(len(house.names)))])
    events = []
    for _ in range(many):
        name, other = rng.choice(house.names), rng.choice(house.names)
        word = rng.choice(("letter", "letter", "swap", "swaps", "move", "moves"))
        if word == "letter":
            letter = rng.choice(every_letter(house))
            told = told_answer(house, order, *letter) if rng.random() < 0.9 else rng.choice((None, 0, 1))
            event = ("letter",) + letter + (told,)
        else:
            event = {"swap": ("swap", name, other), "move": ("move", name)}.get(word, (word,))
        if event[0] != "swap" or name != other:
            events.append(event)
            order = rng.choice(told_next(house, order, event) or [order])
    return events


def samples(seed, many):
    rng = random.Random(seed)
    houses = sample_houses(many, seed, most_names=3, most_boxes=4)
    return [(house, sample_events(rng, house, rng.randint(0, 4))) for house in houses]


class ExamplesTest(PlateTest):
    def test_examples(self):
        for example in (EXAMPLE_EVENTS, EXAMPLE_MOVED, EXAMPLE_WRONG_EVENT):
            got, wanted = outcome(example)
            self.assertEqual(got, wanted)

    def test_interface_is_defined_in_the_file(self):
        self.check_defined(moving, "orders_then", "orders_first", "story_count", "has_moved", "fewest_moves")


class InvalidEventTest(PlateTest):
    def check_all(self, house, events, index):
        for function in (orders_then, orders_first, story_count):
            self.check_error(InvalidEvent, function, house, events, index=index)
        self.check_error(InvalidEvent, has_moved, house, events, "cat", index=index)

    def test_the_index_of_the_first_wrong_event(self):
        right = [("letter", "ann", 0, 6), ("swap", "bob", "ann"), ("swaps",), ("move", "bob"), ("moves",)]
        for wrong in WRONG_EVENTS:
            self.check_all(trio(), [wrong], 0)
            self.check_all(trio(), right + [wrong, ("moves",), wrong], 5)

    def test_also_if_nothing_can_come_about(self):
        self.check_all(unlivable(), [("moves",), ("moves", "ann")], 1)
        self.check_all(full(), [("moves",), ("stay",)], 1)


class EventsTest(PlateTest):
    def check_events(self, house, events, first, then, count):
        self.check(first, orders_first, house, events)
        self.check(then, orders_then, house, events)
        self.check(count, story_count, house, events)

    def test_no_events(self):
        self.check_events(plated(), [], [(0, 1)], [(0, 1)], 1)
        self.check_events(full(), [], [(0, 1), (1, 0)], [(0, 1), (1, 0)], 2)
        self.check_events(unlivable(), [], [], [], 0)

    def test_letter(self):
        self.check_events(full(), [("letter", "ann", 0, 0)], [(1, 0)], [(1, 0)], 1)
        self.check_events(full(), [("letter", "ann", 0, None)], [(0, 1)], [(0, 1)], 1)
        self.check_events(full(), [("letter", "ann", 0, 1)], [], [], 0)
        house = House(("ann", "bob"), ("", ""), {"ann": "back", "bob": (None, 0)})
        self.check_events(house, [("letter", "ann", 0, 0), ("letter", "bob", 1, 0)], [(1, 0)], [(1, 0)], 1)

    def test_swap(self):
        self.check_events(plated(), [("swap", "ann", "bob")], [(0, 1)], [(1, 0)], 1)
        self.check_events(plated(), [("swap", "bob", "ann")], [(0, 1)], [(1, 0)], 1)
        house = house_of(("a", "b", "c"), ("a", "b", "c"))
        self.check_events(house, [("swap", "a", "c")], [(0, 1, 2)], [(2, 1, 0)], 1)
        self.check_events(house, [("swap", "a", "c"), ("swap", "a", "b")], [(0, 1, 2)], [(1, 2, 0)], 1)

    def test_swaps(self):
        house = house_of(("a", "b", "c"), ("a", "b", "c"))
        then = [(0, 2, 1), (1, 0, 2), (2, 1, 0)]
        self.check_events(house, [("swaps",)], [(0, 1, 2)], then, 3)
        self.check_events(house, [("swaps",), ("swaps",)], [(0, 1, 2)], [(0, 1, 2), (1, 2, 0), (2, 0, 1)], 9)

    def test_one_household_cannot_exchange(self):
        self.check_events(house_of(("ann",), ("", "")), [("swaps",)], [], [], 0)
        self.check_events(house_of(("ann",), ("", "")), [("moves",), ("swaps",), ("moves",)], [], [], 0)

    def test_move(self):
        self.check_events(plated(), [("move", "ann")], [(0, 1)], [(2, 1)], 1)
        house = house_of(("a", "b"), ("a", "b", "", ""))
        self.check_events(house, [("move", "a")], [(0, 1)], [(2, 1), (3, 1)], 2)
        self.check_events(house, [("move", "a"), ("move", "b")], [(0, 1)], [(2, 0), (2, 3), (3, 0), (3, 2)], 4)
        self.check_events(house, [("move", "a"), ("move", "a")], [(0, 1)], [(0, 1), (2, 1), (3, 1)], 4)

    def test_moves(self):
        self.check_events(plated(), [("moves",)], [(0, 1)], [(0, 2), (2, 1)], 2)
        self.check_events(house_of(("a",), ("a", "", "")), [("moves",)], [(0,)], [(1,), (2,)], 2)
        self.check_events(plated(), [("moves",), ("moves",)], [(0, 1)], [(0, 1), (1, 2), (2, 0)], 4)

    def test_no_box_is_nobodys(self):
        for event in (("move", "ann"), ("move", "bob"), ("moves",)):
            self.check_events(full(), [event], [], [], 0)
            self.check_events(full(), [("swap", "ann", "bob"), event], [], [], 0)

    def test_plates_stay_where_they_are(self):
        events = [("swap", "ann", "bob"), ("letter", "ann", 1, None), ("letter", "bob", 1, 0)]
        self.check_events(plated(), events, [(0, 1)], [(1, 0)], 1)
        self.check_events(plated(), [("move", "ann"), ("letter", "ann", 0, None)], [(0, 1)], [(2, 1)], 1)
        self.check_events(plated(), [("move", "ann"), ("letter", "ann", 0, 0)], [], [], 0)

    def test_letters_between_the_others(self):
        events = [("letter", "ann", 0, 0), ("moves",), ("letter", "ann", 0, None), ("letter", "bob", 1, 0)]
        self.check_events(trio(), events, [(1, 0)], [(1, 2)], 1)

    def test_story_count_counts_tuples_of_orders(self):
        # Of two households, "swaps" is the same exchange as "swap": the same tuple of orders.
        self.check(2, story_count, full(), [("swaps",)])
        self.check(2, story_count, full(), [("swap", "ann", "bob"), ("swaps",), ("swap", "ann", "bob")])
        self.check(6 * 3 ** 4, story_count, house_of(("a", "b", "c"), ("",) * 3), [("swaps",)] * 4)
        self.check(6 * 2 ** 70, story_count, trio(), [("moves",)] * 70)

    def test_six_households(self):
        house = house_of(tuple("abcdef"), ("",) * 6)
        self.check(720 * 15 ** 3, story_count, house, [("swaps",)] * 3)
        self.assertEqual(len(orders_then(house, [("swaps",)] * 3)), 720)
        self.check("perhaps", has_moved, house, [("swaps",)] * 3, "a")

    def test_against_the_words_of_the_document(self):
        found = {}
        for house, events in samples(31, 150):
            stories = told_stories(house, events)
            first = sorted({story[0] for story in stories})
            then = sorted({story[-1] for story in stories})
            self.check_events(house, events, first, then, len(stories))
            found[min(len(first), 4), min(len(then), 4)] = True
        self.assertGreater(len(found), 8)


class HasMovedTest(PlateTest):
    def test_surely(self):
        self.check("surely", has_moved, plated(), [("move", "ann")], "ann")
        self.check("surely", has_moved, trio(), [("swap", "ann", "bob")], "bob")
        self.check("surely", has_moved, full(), [("swaps",)], "ann")

    def test_perhaps(self):
        self.check("perhaps", has_moved, trio(), [("moves",)], "ann")
        self.check("perhaps", has_moved, house_of(("a", "b", "c"), ("",) * 3), [("swaps",)], "b")

    def test_never(self):
        self.check("never", has_moved, trio(), [], "ann")
        self.check("never", has_moved, trio(), [("move", "ann"), ("letter", "bob", 0, None)], "bob")
        self.check("never", has_moved, house_of(("a", "b", "c"), ("",) * 3), [("swap", "a", "c")], "b")

    def test_away_and_back_again(self):
        self.check("never", has_moved, trio(), [("move", "ann"), ("move", "ann")], "ann")
        self.check("never", has_moved, full(), [("swaps",), ("swap", "ann", "bob")], "ann")
        self.check("perhaps", has_moved, house_of(("ann",), ("",) * 3), [("moves",), ("moves",)], "ann")
        self.check("surely", has_moved, plated(), [("move", "ann"), ("move", "bob"), ("move", "ann")], "ann")
        self.check("surely", has_moved, plated(), [("move", "ann"), ("move", "bob"), ("move", "ann")], "bob")

    def test_each_story_counts_with_its_own_beginning(self):
        # The same orders at the end as at the beginning, but in another story each.
        self.check("surely", has_moved, trio(), [("swap", "ann", "bob")], "ann")
        self.check(fitting(trio()), orders_then, trio(), [("swap", "ann", "bob")])

    def test_letters_tell(self):
        events = [("moves",), ("letter", "ann", 0, None), ("letter", "bob", 0, 0)]
        self.check("never", has_moved, plated(), events, "ann")
        events = [("moves",), ("letter", "bob", 0, None)]
        self.check("surely", has_moved, plated(), events, "ann")
        self.check("never", has_moved, plated(), events, "bob")

    def test_the_first_error_counts(self):
        self.check_error(InvalidEvent, has_moved, unlivable(), [("moves", 1)], "cat", index=0)
        for name in NO_NAMES:
            self.check_error(UnknownName, has_moved, unlivable(), [], name)
            self.check_error(UnknownName, has_moved, full(), [("moves",)], name)
        self.check_error(NoOrder, has_moved, unlivable(), [], "ann")
        self.check_error(NoOrder, has_moved, full(), [("moves",)], "ann")
        self.check_error(NoOrder, has_moved, full(), [("letter", "ann", 0, 1)], "ann")

    def test_against_the_words_of_the_document(self):
        found = {}
        for house, events in samples(32, 150):
            stories = told_stories(house, events)
            for at, name in enumerate(house.names):
                if not stories:
                    self.check_error(NoOrder, has_moved, house, events, name)
                    continue
                moved = {story[0][at] != story[-1][at] for story in stories}
                wanted = "perhaps" if len(moved) == 2 else "surely" if True in moved else "never"
                self.check(wanted, has_moved, house, events, name)
                found[wanted] = True
        self.assertEqual(set(found), {"surely", "perhaps", "never"})


class FewestMovesTest(PlateTest):
    def test_none_is_needed(self):
        for most in range(4):
            self.check(0, fewest_moves, trio(), [], most)
            self.check(0, fewest_moves, trio(), [("ann", 0, 0), ("bob", 2, 0)], most)

    def test_one(self):
        log = [("ann", 0, 0), ("ann", 0, None)]
        self.check(None, fewest_moves, full(), log, 0)
        for most in (1, 2, 3):
            self.check(1, fewest_moves, full(), log, most)

    def test_two_and_three(self):
        log = [("ann", 0, 0), ("ann", 0, None), ("ann", 0, 0), ("ann", 0, None), ("ann", 0, 0)]
        self.check(None, fewest_moves, full(), log[:3], 1)
        self.check(2, fewest_moves, full(), log[:3], 2)
        self.check(2, fewest_moves, full(), log[:3], 3)
        self.check(None, fewest_moves, full(), log[:4], 2)
        self.check(3, fewest_moves, full(), log[:4], 3)
        self.check(None, fewest_moves, full(), log, 3)

    def test_ahead_of_the_first_tuple(self):
        self.check(1, fewest_moves, plated(), [("ann", 0, 0)], 3)
        self.check(None, fewest_moves, plated(), [("ann", 0, 0)], 0)

    def test_several_ahead_of_one_tuple(self):
        names = ("a", "b", "c", "d")
        house = House(names, names, {name: "back" for name in names})
        turned = [("b", 0, None), ("c", 0, 0), ("c", 1, None), ("a", 2, None), ("b", 2, 0), ("a", 1, 0)]
        log = [("b", 0, 0), ("c", 1, 0), ("a", 2, 0), ("d", 3, None)] + turned
        self.check(2, fewest_moves, house, log, 3)
        self.check(None, fewest_moves, house, log, 1)
        row = [("b", 0, None), ("c", 1, None), ("d", 2, None), ("a", 3, None)]
        self.check(3, fewest_moves, house, row, 3)
        self.check(None, fewest_moves, house, row, 2)

    def test_only_the_order_at_the_beginning_has_to_fit(self):
        log = [("ann", 0, None), ("bob", 0, 0), ("ann", 1, None), ("bob", 1, 0)]
        self.check(1, fewest_moves, plated(), log, 1)

    def test_exchanges_reach_no_box_that_is_nobodys(self):
        self.check(None, fewest_moves, plated(), [("ann", 2, 0)], 3)

    def test_one_household_cannot_exchange(self):
        self.check(0, fewest_moves, house_of(("ann",), ("", "")), [("ann", 0, None), ("ann", 1, None)], 3)
        self.check(None, fewest_moves, house_of(("ann",), ("", "")), [("ann", 0, 0)], 3)

    def test_no_order_fits(self):
        for most in range(4):
            self.check(None, fewest_moves, unlivable(), [("ann", 0, 0)], most)
            self.check(None, fewest_moves, unlivable(), [], most)

    def test_errors(self):
        wrong = [("ann", 0, 0), ("ann", 0, 7)]
        self.check_error(InvalidLog, fewest_moves, trio(), wrong, 4, index=1)
        self.check_error(InvalidLog, fewest_moves, unlivable(), wrong, 0, index=1)
        for most in (-1, 4, 100, True, False, None):
            self.check_error(InvalidNumber, fewest_moves, trio(), [], most)
            self.check_error(InvalidNumber, fewest_moves, unlivable(), [("ann", 0, 0)], most)

    def test_against_the_words_of_the_document(self):
        rng = random.Random(33)
        found = {}
        for house in sample_houses(120, 33, most_names=3, most_boxes=3):
            log = sample_log(rng, house, rng.randint(1, 2)) + sample_log(rng, house, rng.randint(0, 2))
            for most in (0, 1, 3):
                wanted = told_fewest(house, log, most)
                self.check(wanted, fewest_moves, house, log, most)
                found[wanted] = True
        self.assertLessEqual({None, 0, 1, 2}, set(found))
