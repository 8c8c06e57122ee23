"""Points 24 and 25: halls, their history and trials, and what of point 1 concerns them."""

import random

from lostplates import halls
from lostplates.errors import (
    InvalidBox, InvalidName, InvalidOperation, InvalidOrder, PlateError, TakenBox, UnknownKept, UnknownName,
)
from lostplates.halls import Hall, Trial
from lostplates.houses import House
from tests.example_runner import outcome
from tests.samples import (
    NO_BOXES, NO_NAMES, NO_ORDERS, PlateTest, every_order, fitting, house_of, sample_houses, shown, spoil, told_put,
)

EXAMPLE_HALL = """
>>> from lostplates.houses import House
>>> from lostplates.halls import Hall
>>> house = House(("ant", "bee"), ("", "b..", ""), {"ant": (None, 0), "bee": "back"})
>>> hall = Hall(house, (0, 1))
>>> told = hall.apply_all([("post", "ant", 1), ("keep_as", "x"), ("shift", "ant", 2), ("swap", "ant", "bee"), ("fetch", "x")])
>>> [told, hall.living, hall.posted, hall.undo(), hall.living]
[[0, False, 0, False, 1], (0, 1), [('ant', 1, 'back')], True, (1, 2)]
"""

EXAMPLE_TAKEN = """
>>> from lostplates.houses import House
>>> from lostplates.halls import Hall
>>> house = House(("ant", "bee"), ("", "b..", ""), {"ant": (None, 0), "bee": "back"})
>>> Hall(house, (0, 1)).shift("ant", 0)
raises TakenBox()
"""

NO_WORDS = ("", "Ann", "ann ", "a1", "ninewords", "a.", "-", None, 0, True, ("x",), ["x"], {"x": 1})
WRONG_OPERATIONS = [
    (), ("post",), ("post", "ann"), ("post", "ann", 0, 0), ("swap", "ann"), ("swap", "ann", "bob", "bob"), ("shift",),
    ("shift", "ann"), ("shift", "ann", 2, 2), ("teach",), ("teach", True, False), ("keep_as",), ("keep_as", "x", "y"),
    ("fetch",), ("fetch", "x", "y"), ("undo", 1), ("redo", 1), ("undo", "undo"), ("Post", "ann", 0), ("",), ("", 0, 0),
    ("apply_all", []), ("replay", 0, 0), ("tried_out", [], True), ("history",), ("living",), ("hold",),
    ("where", "ann"), ("__init__", 0, 0), ("_execute", ("undo",)), (None,), (0, 1), (True,),
    (("undo",),), (["undo"],), ({},), ["undo"],
    ["post", "ann", 0], "undo", "redo", None, 0, {"undo": True}, {},
]


def trio():
    return house_of(("ann", "bob"), ("", "", ""))


def plated():
    """The orders (0, 1) and (2, 1) fit."""
    return house_of(("ann", "bob"), ("", "b..", ""))


def guessing():
    """In the order (0, 1, 2) a letter for c goes from a to b, and from b to c."""
    return House(("a", "b", "c"), ("",) * 4, {"a": (None, None, 1), "b": (None, None, 2), "c": "back"})


def looks(hall):
    """All that can be read off a hall."""
    return {
        "house_now": hall.house_now, "living": hall.living, "teaches": hall.teaches, "posted": hall.posted,
        "kept_under": hall.kept_under, "history": hall.history,
    }


def told_start(house, order):
    return {"house": house, "order": order, "teaches": False, "posted": [], "kept": {}}


def told_execute(now, word, *args):
    """What point 24 says of one operation: changes a dict with what the hall is, and returns the result."""
    house, order, names = now["house"], now["order"], now["house"].names
    if word in ("post", "swap", "shift") and args[0] not in names:
        raise UnknownName("")
    if word == "swap" and (args[1] not in names or args[0] == args[1]):
        raise UnknownName("")
    if word in ("post", "shift") and (isinstance(args[1], bool) or args[1] not in range(len(house))):
        raise InvalidBox("")
    living = dict(zip(names, order))
    if word == "post":
        learned, told, handed = told_put(house, order, *args)
        now["posted"] = now["posted"] + [args + (told,)]
        now["house"] = learned if now["teaches"] else house
        return {"back": handed}.get(told)
    if word == "swap":
        changed = {args[0]: living[args[1]], args[1]: living[args[0]]}
        now["order"] = tuple({**living, **changed}.values())
        return now["order"] in fitting(house)
    if word == "shift":
        if args[1] in order:
            raise TakenBox("")
        now["order"] = tuple({**living, args[0]: args[1]}.values())
        return living[args[0]]
    return told_other(now, word, *args)


def told_other(now, word, arg):
    if word == "teach":
        before, now["teaches"] = now["teaches"], arg
        return before
    if not (isinstance(arg, str) and arg.isascii() and arg.isalpha() and arg.islower() and len(arg) <= 8):
        raise {"keep_as": InvalidName, "fetch": UnknownKept}[word]("")
    before = now["kept"].get(arg)
    if word == "keep_as":
        now["kept"] = {**now["kept"], arg: {key: worth for key, worth in now.items() if key != "kept"}}
        return before is not None
    if before is None:
        raise UnknownKept("")
    now.update(before)
    return len(before["posted"])


class ToldHall:
    """What points 24 and 25 say of a hall: the operations in effect are executed anew for each look at it."""

    def __init__(self, house, order):
        self.first = (house, order)
        self.effect = []
        self.gone = []

    def run(self, operations):
        now = told_start(*self.first)
        results = [told_execute(now, *operation) for operation in operations]
        return now, results

    def execute(self, operation):
        if operation == ("undo",):
            if self.effect:
                self.gone.append(self.effect.pop())
                return True
            return False
        if operation == ("redo",):
            if self.gone:
                self.effect.append(self.gone.pop())
                return True
            return False
        result = self.run(self.effect + [operation])[1][-1]
        self.effect.append(operation)
        self.gone = []
        return result

    def apply_all(self, operations):
        before = list(self.effect), list(self.gone)
        try:
            return [self.execute(operation) for operation in operations]
        except PlateError:
            self.effect, self.gone = before
            raise

    def looks(self):
        now = self.run(self.effect)[0]
        return {
            "house_now": now["house"], "living": now["order"], "teaches": now["teaches"], "posted": now["posted"],
            "kept_under": sorted(now["kept"]), "history": list(self.effect),
        }


def sample_operation(rng, house):
    word = rng.choice(
        ("post", "post", "post", "swap", "swap", "shift", "shift", "teach", "keep_as", "fetch", "undo", "undo", "redo")
    )
    names, boxes = house.names + ("cat",) * (rng.random() < 0.1), len(house) + (rng.random() < 0.1)
    if word in ("post", "shift"):
        return word, rng.choice(names), rng.choice(range(boxes))
    if word == "swap":
        return word, rng.choice(names), rng.choice(names)
    if word == "teach":
        return word, rng.random() < 0.7
    if word in ("keep_as", "fetch"):
        return word, rng.choice(("x", "y", "yes", "z" if rng.random() < 0.9 else "Z"))
    return (word,)


def tried(function, *args):
    """The result, or the error, as a pair."""
    try:
        return "result", function(*args)
    except PlateError as error:
        return type(error), vars(error)


class HallTest(PlateTest):
    def check_looks(self, hall, **wanted):
        """All of the properties that are named, and that lists are new for each reading."""
        for _ in range(2):
            found = looks(hall)
            self.assertEqual({name: shown(found[name]) for name in wanted},
                             {name: shown(worth) for name, worth in wanted.items()})
            spoil([found[name] for name in ("posted", "kept_under", "history")])

    def check_error_in(self, hall, error, method, *args, **attributes):
        """Just this error, twice, and nothing is changed by it."""
        self.check_error(error, getattr(hall, method), *args, **attributes)

    def check_unchanged_by(self, hall, error, method, *args, **attributes):
        before = shown(looks(hall))
        self.check_error_in(hall, error, method, *args, **attributes)
        self.assertEqual(shown(looks(hall)), before)


class ExamplesTest(PlateTest):
    def test_examples(self):
        for example in (EXAMPLE_HALL, EXAMPLE_TAKEN):
            got, wanted = outcome(example)
            self.assertEqual(got, wanted)

    def test_interface_is_defined_in_the_file(self):
        self.check_defined(halls, "Hall", "Trial")
        for name in ("post", "swap", "teach", "keep_as", "undo", "redo", "shift", "fetch", "apply_all", "tried_out"):
            self.assertEqual(Hall.__dict__[name].__qualname__, "Hall." + name)
        self.assertIsInstance(Hall.__dict__["replay"], classmethod)
        for name in ("house_now", "living", "teaches", "posted", "kept_under", "history"):
            self.assertIsInstance(Hall.__dict__[name], property)
        self.assertLessEqual({"__enter__", "__exit__", "hold"}, set(Trial.__dict__))


class BeginningTest(HallTest):
    def test_properties(self):
        hall = Hall(trio(), (2, 0))
        self.check_looks(hall, house_now=trio(), living=(2, 0), teaches=False, posted=[], kept_under=[], history=[])

    def test_orders_need_not_fit(self):
        self.check_looks(Hall(plated(), (1, 0)), living=(1, 0))

    def test_parameters_by_keyword(self):
        self.check_looks(Hall(house=trio(), order=(0, 1)), living=(0, 1))

    def test_no_order(self):
        for order in NO_ORDERS:
            self.check_error(InvalidOrder, Hall, trio(), order)
            self.check_error(InvalidOrder, Hall.replay, trio(), order, [])
            self.check_error(InvalidOrder, Hall.replay, trio(), order, [("jump",)])

    def test_two_halls_of_a_house_are_their_own(self):
        house = guessing()
        one, other = Hall(house, (0, 1, 2)), Hall(house, (0, 1, 2))
        one.apply_all([("teach", True), ("post", "c", 0), ("keep_as", "x"), ("shift", "c", 3)])
        self.check_looks(other, house_now=guessing(), living=(0, 1, 2), posted=[], kept_under=[], history=[])
        self.assertEqual(house, guessing())


class PostTest(HallTest):
    def test_answers(self):
        hall = Hall(guessing(), (0, 1, 3))
        told = [hall.post(*letter) for letter in (("c", 0), ("a", 1), ("b", 3), ("c", 2), ("c", 3), ("b", 0))]
        self.assertEqual(told, [None, 0, 0, None, None, 0])
        words = [("c", 0, "lies"), ("a", 1, "back"), ("b", 3, "back"), ("c", 2, "lies"), ("c", 3, "kept")]
        self.check_looks(hall, posted=words + [("b", 0, "back")], house_now=guessing(), living=(0, 1, 3))
        self.assertEqual(hall.history[0], ("post", "c", 0))
        self.assertEqual(hall.history[5], ("post", "b", 0))

    def test_handed_on_and_back(self):
        house = House(("a", "b", "c"), ("",) * 3, {"a": (0, 0, 1), "b": (0, 0, None), "c": "keep"})
        hall = Hall(house, (0, 1, 2))
        self.assertEqual([hall.post("c", 0), hall.post("c", 1), hall.post("a", 2)], [1, 0, None])

    def test_goes_round(self):
        house = House(("a", "b", "c"), ("",) * 3, {"a": (0, 0, 1), "b": (0, 0, 0), "c": "keep"})
        hall = Hall(house, (0, 1, 2))
        hall.teach(True)
        self.assertIsNone(hall.post("c", 0))
        self.check_looks(hall, posted=[("c", 0, "round")], house_now=house)

    def test_nobody_learns_at_first(self):
        hall = Hall(guessing(), (0, 1, 2))
        self.assertIsNone(hall.post("c", 0))
        self.check_looks(hall, posted=[("c", 0, "kept")], house_now=guessing())

    def test_households_learn_if_the_hall_teaches(self):
        hall = Hall(guessing(), (0, 1, 2))
        hall.teach(True)
        hall.post("c", 0)
        later = House(("a", "b", "c"), ("",) * 4, {"a": (None, None, 2), "b": (None, None, 2), "c": "back"})
        self.check_looks(hall, house_now=later, posted=[("c", 0, "kept")])
        hall.shift("b", 3)
        # So it does not come to box 1 any more.
        self.assertIsNone(hall.post("c", 0))
        self.check_looks(hall, posted=[("c", 0, "kept"), ("c", 0, "kept")], house_now=later)
        hall.teach(False)
        hall.shift("c", 1)
        self.assertIsNone(hall.post("c", 0))
        self.check_looks(hall, house_now=later)

    def test_learned_that_it_came_back(self):
        manners = {"a": (None, None, 1), "b": (None, None, None), "c": "back"}
        hall = Hall(House(("a", "b", "c"), ("",) * 4, manners), (0, 1, 2))
        hall.teach(True)
        self.assertEqual([hall.post("c", 0), hall.post("c", 0)], [1, 0])
        manners["a"] = (None, None, None)
        self.check_looks(hall, house_now=House(("a", "b", "c"), ("",) * 4, manners))

    def test_errors(self):
        hall = Hall(trio(), (0, 1))
        hall.post("ann", 0)
        for name in NO_NAMES:
            self.check_unchanged_by(hall, UnknownName, "post", name, 0)
            self.check_unchanged_by(hall, UnknownName, "post", name, 3)
        for box in NO_BOXES:
            self.check_unchanged_by(hall, InvalidBox, "post", "ann", box)


class SwapTest(HallTest):
    def test_the_order_fits_then(self):
        hall = Hall(plated(), (1, 0))
        self.assertIs(hall.swap("ann", "bob"), True)
        self.check_looks(hall, living=(0, 1), history=[("swap", "ann", "bob")])

    def test_the_order_does_not_fit_then(self):
        hall = Hall(plated(), (0, 1))
        self.assertIs(hall.swap("bob", "ann"), False)
        self.check_looks(hall, living=(1, 0))
        hall = Hall(plated(), (2, 0))
        self.assertIs(hall.swap("ann", "bob"), False)
        self.check_looks(hall, living=(0, 2))

    def test_others_stay(self):
        hall = Hall(guessing(), (3, 0, 1))
        self.assertIs(hall.swap("c", "a"), True)
        self.check_looks(hall, living=(1, 0, 3))

    def test_errors(self):
        hall = Hall(trio(), (0, 1))
        for name in NO_NAMES:
            self.check_unchanged_by(hall, UnknownName, "swap", name, "ann")
            self.check_unchanged_by(hall, UnknownName, "swap", "ann", name)
            self.check_unchanged_by(hall, UnknownName, "swap", name, name)
        self.check_unchanged_by(hall, UnknownName, "swap", "ann", "ann")
        self.check_unchanged_by(hall, UnknownName, "swap", "bob", "bob")


class ShiftTest(HallTest):
    def test_to_a_free_box(self):
        hall = Hall(trio(), (0, 1))
        self.assertEqual([hall.shift("ann", 2), hall.shift("bob", 0), hall.shift("ann", 1)], [0, 1, 2])
        self.check_looks(hall, living=(1, 0))

    def test_the_order_need_not_fit_then(self):
        hall = Hall(plated(), (0, 1))
        self.assertEqual(hall.shift("bob", 2), 1)
        self.check_looks(hall, living=(0, 2), history=[("shift", "bob", 2)])

    def test_errors(self):
        hall = Hall(trio(), (0, 1))
        for name in NO_NAMES:
            for box in (0, 2, 3):
                self.check_unchanged_by(hall, UnknownName, "shift", name, box)
        for box in NO_BOXES:
            self.check_unchanged_by(hall, InvalidBox, "shift", "ann", box)
        self.check_unchanged_by(hall, TakenBox, "shift", "ann", 0)
        self.check_unchanged_by(hall, TakenBox, "shift", "ann", 1)
        self.check_unchanged_by(hall, TakenBox, "shift", "bob", 1)


class TeachTest(HallTest):
    def test_whether_they_did_before(self):
        hall = Hall(trio(), (0, 1))
        wanted = [False, True, True, False, False]
        for yes, before in zip((True, True, False, False, True), wanted):
            self.assertIs(hall.teach(yes), before)
            self.check_looks(hall, teaches=yes)
        self.assertEqual(len(hall.history), 5)


class KeepTest(HallTest):
    def test_a_new_name_and_one_that_is_taken(self):
        hall = Hall(trio(), (0, 1))
        self.assertIs(hall.keep_as("x"), False)
        self.assertIs(hall.keep_as("abcdefgh"), False)
        self.assertIs(hall.keep_as("x"), True)
        self.check_looks(hall, kept_under=["abcdefgh", "x"])
        self.assertEqual(hall.history, [("keep_as", "x"), ("keep_as", "abcdefgh"), ("keep_as", "x")])

    def test_fetch_returns_to_all_that_is_kept(self):
        hall = Hall(guessing(), (0, 1, 2))
        hall.teach(True)
        hall.post("c", 0)
        kept = looks(hall)
        hall.keep_as("x")
        hall.apply_all([("shift", "c", 3), ("post", "c", 2), ("post", "c", 1), ("teach", False), ("post", "a", 3)])
        self.assertEqual(hall.fetch("x"), 1)
        self.check_looks(
            hall, house_now=kept["house_now"], living=(0, 1, 2), teaches=True, posted=[("c", 0, "kept")],
            kept_under=["x"],
        )
        # The history is not kept.
        self.assertEqual(len(hall.history), 9)
        self.assertEqual(hall.history[-1], ("fetch", "x"))

    def test_names_of_operations(self):
        hall = Hall(trio(), (0, 1))
        for name in ("undo", "redo", "post", "keepas"):
            self.assertIs(hall.keep_as(name), False)
            self.assertEqual(hall.fetch(name), 0)
        self.check_looks(hall, kept_under=["keepas", "post", "redo", "undo"])
        self.assertEqual(len(hall.history), 8)

    def test_what_was_kept_last(self):
        hall = Hall(trio(), (0, 1))
        hall.apply_all([("keep_as", "x"), ("post", "ann", 1), ("shift", "ann", 2), ("keep_as", "x")])
        hall.apply_all([("shift", "ann", 0), ("post", "ann", 1)])
        self.assertEqual([hall.fetch("x"), hall.living], [1, (2, 1)])

    def test_what_is_kept_stays(self):
        hall = Hall(trio(), (0, 1))
        hall.apply_all([("keep_as", "x"), ("shift", "ann", 2), ("keep_as", "y"), ("post", "bob", 0), ("fetch", "x")])
        self.check_looks(hall, kept_under=["x", "y"], living=(0, 1), posted=[])
        self.assertEqual([hall.fetch("y"), hall.living], [0, (2, 1)])
        self.assertEqual([hall.fetch("x"), hall.living], [0, (0, 1)])
        self.assertEqual([hall.fetch("x"), hall.fetch("y")], [0, 0])

    def test_what_a_kept_state_has_is_not_what_was_kept_later(self):
        # What is kept under a name is not kept: y is there still.
        hall = Hall(trio(), (0, 1))
        hall.apply_all([("keep_as", "x"), ("keep_as", "y"), ("fetch", "x")])
        self.check_looks(hall, kept_under=["x", "y"])
        hall.apply_all([("undo",), ("undo",)])
        self.check_looks(hall, kept_under=["x"])
        self.check_unchanged_by(hall, UnknownKept, "fetch", "y")

    def test_no_words(self):
        hall = Hall(trio(), (0, 1))
        hall.keep_as("x")
        for name in NO_WORDS:
            self.check_unchanged_by(hall, InvalidName, "keep_as", name)
            self.check_unchanged_by(hall, UnknownKept, "fetch", name)

    def test_unknown_names(self):
        hall = Hall(trio(), (0, 1))
        self.check_unchanged_by(hall, UnknownKept, "fetch", "x")
        hall.keep_as("x")
        for name in ("y", "xx", "ann"):
            self.check_unchanged_by(hall, UnknownKept, "fetch", name)

    def test_undone(self):
        hall = Hall(trio(), (0, 1))
        hall.keep_as("x")
        hall.undo()
        self.check_looks(hall, kept_under=[])
        self.check_unchanged_by(hall, UnknownKept, "fetch", "x")
        hall.redo()
        self.assertEqual(hall.fetch("x"), 0)

    def test_the_second_one_undone(self):
        hall = Hall(trio(), (0, 1))
        hall.apply_all([("keep_as", "x"), ("shift", "ann", 2), ("keep_as", "x"), ("undo",), ("shift", "bob", 0)])
        self.assertEqual([hall.fetch("x"), hall.living], [0, (0, 1)])


class UndoTest(HallTest):
    def test_nothing_to_undo(self):
        hall = Hall(trio(), (0, 1))
        self.assertIs(hall.undo(), False)
        self.assertIs(hall.redo(), False)
        self.check_looks(hall, history=[], living=(0, 1))

    def test_each_operation(self):
        operations = [
            ("teach", True), ("post", "c", 0), ("keep_as", "x"), ("shift", "b", 3), ("swap", "a", "c"), ("fetch", "x"),
            ("post", "c", 1), ("keep_as", "y"), ("keep_as", "x"), ("teach", False), ("fetch", "y"),
        ]
        hall = Hall(guessing(), (0, 1, 2))
        seen = [shown(looks(hall))]
        for operation in operations:
            hall.apply_all([operation])
            seen.append(shown(looks(hall)))
        for before in seen[-2::-1]:
            self.assertIs(hall.undo(), True)
            self.assertEqual(shown(looks(hall)), before)
        self.assertIs(hall.undo(), False)
        for later in seen[1:]:
            self.assertIs(hall.redo(), True)
            self.assertEqual(shown(looks(hall)), later)
        self.assertIs(hall.redo(), False)

    def test_not_behind_a_new_operation(self):
        hall = Hall(trio(), (0, 1))
        hall.apply_all([("shift", "ann", 2), ("post", "ann", 1), ("undo",), ("undo",), ("teach", False)])
        self.assertIs(hall.redo(), False)
        self.check_looks(hall, history=[("teach", False)], living=(0, 1))

    def test_not_behind_a_new_operation_and_its_undo(self):
        hall = Hall(trio(), (0, 1))
        hall.apply_all([("shift", "ann", 2), ("undo",), ("swap", "ann", "bob"), ("undo",)])
        self.assertEqual([hall.redo(), hall.redo()], [True, False])
        self.check_looks(hall, living=(1, 0))

    def test_still_behind_an_error(self):
        hall = Hall(trio(), (0, 1))
        hall.shift("ann", 2)
        hall.undo()
        self.check_error_in(hall, UnknownName, "post", "cat", 0)
        self.check_error_in(hall, InvalidName, "keep_as", "")
        self.check_error_in(hall, UnknownKept, "fetch", "x")
        self.check_error_in(hall, InvalidOperation, "apply_all", [("post",)], index=0)
        self.assertEqual([hall.redo(), hall.living], [True, (2, 1)])

    def test_some_of_them(self):
        hall = Hall(trio(), (0, 1))
        hall.apply_all([("shift", "ann", 2), ("shift", "bob", 0), ("shift", "ann", 1)])
        told = [hall.undo(), hall.undo(), hall.redo(), hall.undo(), hall.redo(), hall.redo(), hall.redo()]
        self.assertEqual(told, [True] * 6 + [False])
        self.check_looks(hall, living=(1, 0))

    def test_long_histories(self):
        hall = Hall(trio(), (0, 1))
        for at in range(1500):
            hall.post("ann", at % 3)
        self.assertEqual(sum([hall.undo() for _ in range(2000)]), 1500)
        self.check_looks(hall, posted=[], history=[])
        self.assertEqual(sum([hall.redo() for _ in range(2000)]), 1500)
        self.assertEqual(len(hall.posted), 1500)
        hall.apply_all([("keep_as", "x")] * 1500)
        self.assertEqual(hall.fetch("x"), 1500)


class ApplyAllTest(HallTest):
    def test_no_operations(self):
        hall = Hall(trio(), (0, 1))
        hall.shift("ann", 2)
        hall.undo()
        self.assertEqual(hall.apply_all([]), [])
        self.assertIs(hall.redo(), True)

    def test_results(self):
        hall = Hall(plated(), (0, 1))
        operations = [
            ("post", "ann", 1), ("post", "ann", 2), ("swap", "ann", "bob"), ("swap", "ann", "bob"), ("shift", "ann", 2),
            ("teach", True), ("teach", True), ("keep_as", "x"), ("keep_as", "x"), ("fetch", "x"), ("redo",), ("undo",),
        ]
        before = shown(operations)
        told = hall.apply_all(operations)
        self.assertEqual(shown(told), shown([0, None, False, True, 0, False, True, False, True, 2, False, True]))
        self.assertEqual(shown(operations), before)
        self.assertEqual(hall.history, operations[:9])
        spoil(told)
        spoil(operations)
        self.assertEqual(len(hall.history), 9)

    def test_undo_and_redo_in_the_list(self):
        hall = Hall(trio(), (0, 1))
        told = hall.apply_all([("undo",), ("shift", "ann", 2), ("undo",), ("redo",), ("redo",), ("undo",), ("undo",)])
        self.assertEqual(told, [False, 0, True, True, False, True, False])
        self.check_looks(hall, living=(0, 1), history=[])
        self.assertIs(hall.redo(), True)

    def test_undoing_reaches_operations_ahead_of_the_list(self):
        hall = Hall(trio(), (0, 1))
        hall.shift("ann", 2)
        hall.shift("bob", 0)
        self.assertEqual(hall.apply_all([("undo",), ("undo",), ("undo",), ("redo",)]), [True, True, False, True])
        self.check_looks(hall, living=(2, 1), history=[("shift", "ann", 2)])
        self.assertIs(hall.redo(), True)

    def test_redoing_reaches_operations_ahead_of_the_list(self):
        hall = Hall(trio(), (0, 1))
        hall.shift("ann", 2)
        hall.undo()
        self.assertEqual(hall.apply_all([("redo",), ("redo",)]), [True, False])
        self.check_looks(hall, living=(2, 1))

    def test_wrong_operations(self):
        hall = Hall(trio(), (0, 1))
        hall.apply_all([("post", "ann", 1), ("shift", "ann", 2), ("undo",)])
        before = looks(hall)
        for wrong in WRONG_OPERATIONS:
            right = [("post", "ann", 1), ("undo",), ("redo",)]
            for operations, index in (([wrong], 0), (right + [wrong], 3), ([wrong] + right, 0), ([wrong] * 3, 0)):
                self.check_unchanged_by(hall, InvalidOperation, "apply_all", operations, index=index)
                self.check_unchanged_by(hall, InvalidOperation, "tried_out", operations, True, index=index)
                self.check_unchanged_by(hall, InvalidOperation, "tried_out", operations, False, index=index)
                self.check_error(InvalidOperation, Hall.replay, trio(), (0, 1), operations, index=index)
            # Ahead of all errors of operations.
            self.check_unchanged_by(hall, InvalidOperation, "apply_all", [("post", "cat", 9), wrong], index=1)
        self.check_looks(hall, **before)
        self.assertIs(hall.redo(), True)

    def test_an_error_in_the_middle(self):
        failing = [
            (("post", "cat", 0), UnknownName), (("post", "ann", True), InvalidBox),
            (("swap", "ann", "ann"), UnknownName), (("shift", "ann", 3), InvalidBox),
            (("shift", "bob", 1), TakenBox), (("keep_as", "X"), InvalidName),
            (("fetch", "y"), UnknownKept),
        ]
        ahead = [("undo",), ("teach", True), ("shift", "ann", 2), ("post", "bob", 2), ("keep_as", "x"), ("undo",)]
        for operation, error in failing:
            hall = Hall(trio(), (0, 1))
            hall.apply_all([("post", "ann", 1), ("shift", "bob", 2), ("teach", True), ("undo",), ("undo",)])
            for method, more in (("apply_all", ()), ("tried_out", (True,)), ("tried_out", (False,))):
                operations = ahead + [operation, ("teach", False)]
                self.check_unchanged_by(hall, error, method, operations, *more)
                self.check_unchanged_by(hall, error, method, [operation], *more)
            self.check_looks(hall, history=[("post", "ann", 1)])
            self.assertEqual([hall.redo(), hall.redo(), hall.redo()], [True, True, False])
            self.check_looks(hall, living=(0, 2), teaches=True)
            self.assertEqual([hall.undo() for _ in range(4)], [True] * 3 + [False])

    def test_kept_in_the_list_and_undone_again(self):
        hall = Hall(trio(), (0, 1))
        operations = [("keep_as", "x"), ("fetch", "x"), ("undo",), ("undo",), ("fetch", "x")]
        self.check_unchanged_by(hall, UnknownKept, "apply_all", operations)
        self.assertIs(hall.redo(), False)


class ReplayTest(HallTest):
    def test_history(self):
        hall = Hall(guessing(), (0, 1, 2))
        hall.apply_all([("teach", True), ("post", "c", 0), ("keep_as", "x"), ("swap", "a", "b"), ("fetch", "x")])
        again = Hall.replay(guessing(), (0, 1, 2), hall.history)
        self.assertIsInstance(again, Hall)
        self.assertEqual(shown(looks(again)), shown(looks(hall)))
        self.assertEqual([again.undo() for _ in range(6)], [True] * 5 + [False])
        self.check_looks(hall, living=(0, 1, 2))

    def test_undo_and_redo(self):
        hall = Hall.replay(trio(), (0, 1), [("shift", "ann", 2), ("shift", "bob", 0), ("undo",), ("undo",), ("redo",)])
        self.check_looks(hall, living=(2, 1), history=[("shift", "ann", 2)])
        self.assertEqual([hall.redo(), hall.redo()], [True, False])

    def test_no_operations(self):
        self.check_looks(Hall.replay(trio(), (0, 1), []), living=(0, 1), history=[])

    def test_errors_of_operations(self):
        self.check_error(TakenBox, Hall.replay, trio(), (0, 1), [("post", "ann", 0), ("shift", "ann", 1)])
        self.check_error(UnknownName, Hall.replay, trio(), (0, 1), [("post", "cat", 0)])

    def test_of_a_subclass(self):
        class Other(Hall):
            pass

        self.assertIs(type(Other.replay(trio(), (0, 1), [("teach", True)])), Other)


class TrialTest(HallTest):
    def hall(self):
        """A hall with something to undo and something to redo."""
        hall = Hall(trio(), (0, 1))
        hall.apply_all([("post", "ann", 1), ("keep_as", "x"), ("shift", "ann", 2), ("undo",)])
        return hall

    def check_as_before(self, hall):
        self.assertEqual(shown(looks(hall)), shown(looks(self.hall())))
        self.assertEqual([hall.redo(), hall.redo(), hall.living], [True, False, (2, 1)])
        self.assertEqual([hall.undo() for _ in range(4)], [True] * 3 + [False])

    def test_all_is_as_before(self):
        hall = self.hall()
        with Trial(hall) as trial:
            self.assertIsInstance(trial, Trial)
            self.assertEqual([hall.swap("ann", "bob"), hall.undo()], [True, True])
            hall.apply_all([("undo",), ("undo",), ("teach", True), ("shift", "bob", 2), ("post", "ann", 0)])
            hall.keep_as("z")
            self.check_looks(hall, living=(0, 2), kept_under=["z"], teaches=True)
        self.check_as_before(hall)

    def test_an_empty_block(self):
        hall = self.hall()
        with Trial(hall):
            pass
        self.check_as_before(hall)

    def test_an_error_leaves_the_block(self):
        hall = self.hall()
        with self.assertRaises(TakenBox):
            with Trial(hall):
                hall.teach(True)
                hall.undo()
                hall.shift("ann", 0)
        self.check_as_before(hall)
        hall = self.hall()
        with self.assertRaises(ZeroDivisionError):
            with Trial(hall):
                hall.post("ann", 1 // len(hall.posted[1:]))
        self.check_as_before(hall)

    def test_hold(self):
        hall = self.hall()
        with Trial(hall) as trial:
            hall.teach(True)
            trial.hold()
            hall.shift("bob", 2)
        self.check_looks(hall, teaches=True, living=(0, 2))
        self.assertEqual([hall.redo(), hall.undo(), hall.undo(), hall.living], [False, True, True, (0, 1)])

    def test_hold_and_an_error_behind_it(self):
        hall = self.hall()
        with self.assertRaises(UnknownName):
            with Trial(hall) as trial:
                hall.teach(True)
                trial.hold()
                hall.shift("bob", 2)
                hall.swap("ann", "cat")
        self.check_looks(hall, teaches=True, living=(0, 2))

    def test_hold_twice(self):
        hall = self.hall()
        with Trial(hall) as trial:
            trial.hold()
            trial.hold()
            hall.teach(True)
        self.check_looks(hall, teaches=True)

    def test_blocks_in_blocks(self):
        for holds, wanted in ((("inner",), False), (("outer",), False), ((), False), (("inner", "outer"), True)):
            hall = self.hall()
            with Trial(hall) as outer:
                hall.undo()
                with Trial(hall) as inner:
                    hall.teach(True)
                    if "inner" in holds:
                        inner.hold()
                self.check_looks(hall, teaches="inner" in holds, kept_under=[])
                if "outer" in holds:
                    outer.hold()
            if holds[-1:] == ("outer",):
                self.check_looks(hall, teaches=wanted, kept_under=[])
            else:
                self.check_as_before(hall)

    def test_used_once_more(self):
        hall = self.hall()
        trial = Trial(hall)
        with trial:
            hall.shift("bob", 2)
            trial.hold()
        with trial:
            hall.shift("bob", 1)
        self.check_looks(hall, living=(0, 2))

    def test_hold_ahead_of_the_block(self):
        hall = self.hall()
        trial = Trial(hall)
        trial.hold()
        hall.teach(True)
        with trial:
            hall.teach(False)
        self.check_looks(hall, teaches=True)

    def test_tried_out(self):
        operations = [("swap", "ann", "bob"), ("undo",), ("undo",), ("fetch", "x")]
        self.check_unchanged_by(self.hall(), UnknownKept, "tried_out", operations, True)
        operations[-1:] = [("shift", "bob", 2), ("keep_as", "y")]
        hall = self.hall()
        before = shown(operations)
        for _ in range(2):
            self.assertEqual(shown(hall.tried_out(operations, False)), shown([True, True, True, 1, False]))
            self.assertEqual(shown(operations), before)
        self.check_as_before(hall)
        hall = self.hall()
        told = hall.tried_out(operations, True)
        self.assertEqual(shown(told), shown([True, True, True, 1, False]))
        spoil(told)
        self.check_looks(hall, living=(0, 2), kept_under=["y"], posted=[("ann", 1, "back")])
        self.assertEqual(hall.history, [("post", "ann", 1), ("shift", "bob", 2), ("keep_as", "y")])
        self.assertIs(hall.redo(), False)

    def test_tried_out_nothing(self):
        for keep in (True, False):
            hall = self.hall()
            self.assertEqual(hall.tried_out([], keep), [])
            self.check_as_before(hall)

    def test_tried_out_in_a_block(self):
        hall = self.hall()
        with Trial(hall):
            hall.tried_out([("teach", True)], True)
            self.assertIs(hall.teaches, True)
        self.check_as_before(hall)


class DocumentTest(HallTest):
    """Halls against the words of the document."""

    def test_operations_one_by_one(self):
        rng = random.Random(46)
        found = {}
        for house in sample_houses(60, 46):
            order = rng.choice(every_order(house))
            hall, told = Hall(house, order), ToldHall(house, order)
            before = shown(house)
            for _ in range(40):
                word, *args = sample_operation(rng, house)
                got = tried(getattr(hall, word), *args)
                self.assertEqual(shown(got), shown(tried(told.execute, (word, *args))))
                self.assertEqual(shown(looks(hall)), shown(told.looks()))
                found[word, got[0]] = True
            self.assertEqual(shown(looks(Hall.replay(house, order, hall.history))), shown(looks(hall)))
            self.assertEqual(shown(house), before)
        self.assertEqual(len(found), 16, sorted(found, key=str))

    def test_lists_of_operations(self):
        rng = random.Random(47)
        found = {}
        for house in sample_houses(80, 47):
            order = rng.choice(every_order(house))
            hall, told = Hall(house, order), ToldHall(house, order)
            for _ in range(12):
                operations = [sample_operation(rng, house) for _ in range(rng.randint(0, 6))]
                before = shown(operations)
                tries = tried(hall.tried_out, operations, False)
                got = tried(hall.apply_all, operations)
                self.assertEqual(shown(got), shown(tried(told.apply_all, operations)))
                self.assertEqual(shown(tries), shown(got))
                self.assertEqual(shown(looks(hall)), shown(told.looks()))
                self.assertEqual(shown(operations), before)
                found[got[0]] = True
        self.assertLessEqual({"result", UnknownName, InvalidBox, TakenBox, UnknownKept}, set(found))
