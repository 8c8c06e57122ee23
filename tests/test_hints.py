"""Points 11 and 12: hints, and what of point 1 concerns them."""

import random
from itertools import combinations

from lostplates import hints
from lostplates.errors import InvalidHint
from lostplates.hints import hinted, least_hints, needless, quarrel
from tests.example_runner import outcome
from tests.samples import NO_BOXES, NO_NAMES, PlateTest, fitting, house_of, sample_houses

EXAMPLE_HINTS = """
>>> from lostplates.hints import hinted, least_hints, needless, quarrel
>>> from lostplates.houses import House
>>> house = House(("ann", "bob"), ("", "", ""), {"ann": "back", "bob": "back"})
>>> hints = [("ahead", "ann", "bob"), ("free", 1), ("not", "bob", 1), ("behind", "ann", 0)]
>>> told = [hinted(house, hints), needless(house, hints), least_hints(house, hints)]
>>> [told, quarrel(house, hints + [("beside", "bob", "ann")])]
[[[(0, 2)], [0, 1, 2, 3], (0, 1)], (1, 4)]
"""

WRONG_HINTS = (
    [(word, name, 0) for word in ("behind", "not") for name in NO_NAMES]
    + [(word, "ann", box) for word in ("behind", "not") for box in NO_BOXES]
    + [("free", box) for box in NO_BOXES]
    + [(word, name, "ann") for word in ("ahead", "beside") for name in NO_NAMES + (0, 1)]
    + [(word, "ann", name) for word in ("ahead", "beside") for name in NO_NAMES + (0, 1)]
    + [(word, "ann", "ann") for word in ("ahead", "beside")]
    + [(word,) for word in ("behind", "not", "free", "ahead", "beside")]
    + [("behind", "ann"), ("not", "ann"), ("behind", 0), ("ahead", "ann"), ("beside", "ann")]
    + [("behind", "ann", 0, 0), ("not", "ann", 0, 0), ("free", 0, 0), ("free", "ann", 0), ("free", "ann")]
    + [("ahead", "ann", "bob", "ann"), ("beside", "ann", "bob", 0), ("ahead", "bob", "bob")]
    + [("behind", 0, "ann"), ("", "ann", 0), ("Behind", "ann", 0), ("is", "ann", 0), ("after", "ann", "bob")]
    + [(None, "ann", 0), (0, "ann", 0), (("free",), 0), ("ann", "behind", 0), ()]
    + [["free", 0], ["behind", "ann", 0], "free", None, 0, {"free": 0}]
)


def trio():
    return house_of(("ann", "bob"), ("", "", ""))


def unlivable():
    return house_of(("ann", "bob"), ("c..", "", ""))


def told_holds(house, order, hint):
    """What point 11 says of a hint."""
    box = dict(zip(house.names, order))
    word, *rest = hint
    return {
        "behind": lambda name, at: box[name] == at,
        "not": lambda name, at: box[name] != at,
        "free": lambda at: at not in box.values(),
        "ahead": lambda name, other: box[name] < box[other],
        "beside": lambda name, other: box[name] - box[other] in (1, -1),
    }[word](*rest)


def told_left(house, given):
    return [order for order in fitting(house) if all(told_holds(house, order, hint) for hint in given)]


def told_shortest(house, given, wanted):
    """The first of the shortest tuples of indexes of hints that leave the wanted orders."""
    for many in range(len(given) + 1):
        for places in combinations(range(len(given)), many):
            if told_left(house, [given[at] for at in places]) == wanted:
                return places
    return None


def every_hint(house):
    boxes = range(len(house))
    found = [(word, name, box) for word in ("behind", "not", "not") for name in house.names for box in boxes]
    found += [("free", box) for box in boxes]
    pairs = [(name, other) for name in house.names for other in house.names if name != other]
    return found + [(word, name, other) for word in ("ahead", "beside") for name, other in pairs]


def samples(seed, many):
    rng = random.Random(seed)
    found = []
    for house in sample_houses(many, seed):
        given = rng.choices(every_hint(house), k=rng.randint(0, 6))
        if rng.random() < 0.6 and fitting(house):
            order = rng.choice(fitting(house))
            given = [hint for hint in given if told_holds(house, order, hint)]
        found.append((house, given))
    return found


class ExamplesTest(PlateTest):
    def test_examples(self):
        got, wanted = outcome(EXAMPLE_HINTS)
        self.assertEqual(got, wanted)

    def test_interface_is_defined_in_the_file(self):
        self.check_defined(hints, "hinted", "needless", "least_hints", "quarrel")


class InvalidHintTest(PlateTest):
    def check_all(self, house, given, index):
        for function in (hinted, needless, least_hints, quarrel):
            self.check_error(InvalidHint, function, house, given, index=index)

    def test_the_index_of_the_first_wrong_hint(self):
        for wrong in WRONG_HINTS:
            self.check_all(trio(), [wrong], 0)
            right = [("free", 2), ("behind", "bob", 2), ("not", "ann", 2), ("ahead", "ann", "bob")]
            self.check_all(trio(), right + [wrong, ("free", 9), wrong], 4)

    def test_also_if_no_order_fits(self):
        self.check_all(unlivable(), [("free", 0), ("free", 3)], 1)


class HintedTest(PlateTest):
    def test_no_hints(self):
        self.check([(0, 1), (0, 2), (1, 0), (1, 2), (2, 0), (2, 1)], hinted, trio(), [])
        self.check([(1, 0), (2, 0)], hinted, house_of(("ann", "bob"), ("b..", "", "")), [])
        self.check([], hinted, unlivable(), [])

    def test_each_kind_of_hint(self):
        self.check([(1, 0), (1, 2)], hinted, trio(), [("behind", "ann", 1)])
        self.check([(0, 1), (2, 1)], hinted, trio(), [("behind", "bob", 1)])
        self.check([(0, 1), (0, 2), (2, 0), (2, 1)], hinted, trio(), [("not", "ann", 1)])
        self.check([(0, 2), (2, 0)], hinted, trio(), [("free", 1)])
        self.check([(0, 1), (0, 2), (1, 2)], hinted, trio(), [("ahead", "ann", "bob")])
        self.check([(1, 0), (2, 0), (2, 1)], hinted, trio(), [("ahead", "bob", "ann")])
        self.check([(0, 1), (1, 0), (1, 2), (2, 1)], hinted, trio(), [("beside", "ann", "bob")])
        self.check([(0, 1), (1, 0), (1, 2), (2, 1)], hinted, trio(), [("beside", "bob", "ann")])

    def test_a_box_with_a_plate_is_not_free(self):
        self.check([], hinted, house_of(("ann", "bob"), ("", "...", "")), [("free", 1)])

    def test_several_hints(self):
        self.check([(1, 2)], hinted, trio(), [("ahead", "ann", "bob"), ("free", 0)])
        self.check([], hinted, trio(), [("behind", "ann", 1), ("behind", "bob", 1)])
        self.check([(0, 2)], hinted, trio(), [("free", 1), ("free", 1), ("behind", "ann", 0)])

    def test_against_the_words_of_the_document(self):
        for house in sample_houses(25, 18):
            for hint in every_hint(house):
                self.check(told_left(house, [hint]), hinted, house, [hint])
        for house, given in samples(19, 100):
            self.check(told_left(house, given), hinted, house, given)


class NeedlessTest(PlateTest):
    def test_none_and_all(self):
        self.check([], needless, trio(), [])
        self.check([], needless, trio(), [("free", 1)])
        self.check([0, 1], needless, trio(), [("free", 1), ("free", 1)])
        self.check([0], needless, house_of(("ann", "bob"), ("b..", "", "")), [("behind", "bob", 0)])
        self.check([0, 1], needless, unlivable(), [("free", 1), ("behind", "ann", 2)])

    def test_each_one_alone(self):
        given = [("behind", "ann", 0), ("ahead", "ann", "bob"), ("not", "ann", 1), ("not", "ann", 2), ("free", 2)]
        self.check([0, 1, 2, 3], needless, trio(), given)
        self.check([0, 1], needless, trio(), [("behind", "ann", 0), ("ahead", "ann", "bob"), ("free", 1)])
        self.check([1], needless, trio(), [("free", 1), ("not", "ann", 1), ("not", "bob", 2)])

    def test_against_the_words_of_the_document(self):
        for house, given in samples(20, 150):
            wanted = [
                at for at in range(len(given))
                if told_left(house, given[:at] + given[at + 1:]) == told_left(house, given)
            ]
            self.check(wanted, needless, house, given)


class LeastHintsTest(PlateTest):
    def test_none_is_needed(self):
        self.check((), least_hints, trio(), [])
        house = house_of(("ann", "bob"), ("b..", "", ""))
        self.check((), least_hints, house, [("behind", "bob", 0), ("not", "ann", 0)])
        self.check((), least_hints, unlivable(), [("free", 1), ("free", 2)])

    def test_the_first_of_several(self):
        self.check((0,), least_hints, trio(), [("free", 1), ("free", 1)])
        self.check((0, 1), least_hints, trio(), [("free", 1), ("ahead", "ann", "bob"), ("behind", "bob", 2)])
        given = [("not", "ann", 1), ("not", "ann", 2), ("not", "bob", 0), ("not", "bob", 2), ("behind", "ann", 0)]
        self.check((3, 4), least_hints, trio(), given)
        self.check((1, 2), least_hints, trio(), [("not", "ann", 0), ("free", 0), ("not", "ann", 1)])

    def test_hints_that_leave_no_order(self):
        self.check((0, 1), least_hints, trio(), [("behind", "ann", 1), ("behind", "bob", 1)])

    def test_many_hints(self):
        names = tuple("abcdef")
        house = house_of(names, ("",) * 6)
        given = [("not", name, box) for at, name in enumerate(names) for box in range(6) if box != at]
        wanted = tuple(at for at, (_, name, box) in enumerate(given) if box > names.index(name))
        self.assertEqual(len(wanted), 15)
        self.check(wanted, least_hints, house, given)
        self.check((0, 1, 2, 3, 4, 5), quarrel, house, [("not", name, box) for name in names for box in range(6)])

    def test_against_the_words_of_the_document(self):
        found = {}
        for house, given in samples(21, 200):
            wanted = told_shortest(house, given, told_left(house, given))
            self.check(wanted, least_hints, house, given)
            found[wanted] = True
        self.assertLessEqual({0, 1, 2, 3, 4}, {len(places) for places in found})


class QuarrelTest(PlateTest):
    def test_no_order_fits(self):
        self.check((), quarrel, unlivable(), [])
        self.check((), quarrel, unlivable(), [("free", 1), ("behind", "ann", 2)])

    def test_none(self):
        self.check(None, quarrel, trio(), [])
        self.check(None, quarrel, trio(), [("free", 1), ("ahead", "ann", "bob")])

    def test_one_alone(self):
        house = house_of(("ann", "bob"), ("b..", "", ""))
        self.check((1,), quarrel, house, [("not", "ann", 1), ("free", 0), ("behind", "ann", 0)])

    def test_the_first_of_several(self):
        given = [("free", 1), ("behind", "ann", 1), ("behind", "bob", 1), ("ahead", "bob", "ann")]
        self.check((0, 1), quarrel, trio(), given)
        self.check((0, 1), quarrel, trio(), given[1:])
        given = [("not", "ann", 0), ("not", "bob", 1), ("not", "ann", 1), ("not", "ann", 2)]
        self.check((0, 2, 3), quarrel, trio(), given)

    def test_against_the_words_of_the_document(self):
        found = {}
        for house, given in samples(22, 200):
            wanted = told_shortest(house, given, [])
            self.check(wanted, quarrel, house, given)
            found[wanted and len(wanted)] = True
        self.assertLessEqual({None, (), 1, 2, 3}, set(found))
