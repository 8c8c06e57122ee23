"""Houses and logs for the tests, and what the document says of them, written down another way."""

import random
import re
import unittest
from itertools import permutations

from lostplates.errors import PlateError
from lostplates.houses import House

NAMES = ("a", "ab", "ann", "b", "ba", "bob", "c", "eve")


def house_of(names, plates, manner="back"):
    return House(names, plates, {name: manner for name in names})


def sample_plate(rng, names):
    if rng.random() < 0.75:
        return ""
    name = rng.choice(names)
    return "".join(letter if rng.random() < 0.3 else "." for letter in name)


def sample_manner(rng, many, boxes):
    kind = rng.choice(("back", "keep", "guess", "guess", "guess"))
    if kind != "guess":
        return kind
    return tuple(rng.choice([None] + list(range(boxes)) * 2) for _ in range(many))


def sample_house(rng, most_names=4, most_boxes=5):
    names = tuple(sorted(rng.sample(NAMES, rng.randint(1, most_names))))
    boxes = rng.randint(len(names), max(len(names), most_boxes))
    plates = tuple(sample_plate(rng, names) for _ in range(boxes))
    return House(names, plates, {name: sample_manner(rng, len(names), boxes) for name in names})


def sample_houses(many, seed, most_names=4, most_boxes=5):
    rng = random.Random(seed)
    return [sample_house(rng, most_names, most_boxes) for _ in range(many)]


def every_order(house):
    return list(permutations(range(len(house)), len(house.names)))


def every_letter(house):
    return [(name, box) for name in house.names for box in range(len(house))]


def fitting(house):
    """All orders that fit: a pattern is a regular expression, too."""
    found = []
    for order in every_order(house):
        behind = {box: name for name, box in zip(house.names, order)}
        if all(plate == "" or re.fullmatch(plate, behind.get(box, "")) for box, plate in enumerate(house.plates)):
            found.append(order)
    return found


def told_way(house, order, name, box, seen=()):
    """What point 4 says of a letter."""
    who = {order[at]: other for at, other in enumerate(house.names)}.get(box)
    seen = seen + (box,)
    if who is None or who == name or house.manners[who] == "keep":
        return seen, "kept" if who == name else "lies"
    guess = None if house.manners[who] == "back" else dict(zip(house.names, house.manners[who]))[name]
    if guess is None or guess == box:
        return seen, "back"
    return (seen, "round") if guess in seen else told_way(house, order, name, guess, seen)


def told_answer(house, order, name, box):
    boxes, word = told_way(house, order, name, box)
    return {"back": len(boxes) - 1}.get(word)


def told_put(house, order, name, box):
    """What point 19 says of one letter: the house behind it, its word, and how often it was handed on."""
    boxes, word = told_way(house, order, name, box)
    manners = house.manners
    who = {order[at]: other for at, other in enumerate(house.names)}
    for place in boxes[:-1]:
        if word in ("kept", "back"):
            guess = dict(zip(house.names, manners[who[place]]))
            guess[name] = boxes[-1] if word == "kept" else None
            manners[who[place]] = tuple(guess.values())
    return House(house.names, house.plates, manners), word, len(boxes) - 1


def told_possible(house, log):
    return [order for order in fitting(house) if all(told_answer(house, order, *put) == told for *put, told in log)]


def sample_log(rng, house, many):
    """A log of letters, with the answers of an order, but for a few that are just guessed."""
    order = rng.choice(every_order(house))
    log = []
    for name, box in rng.choices(every_letter(house), k=many):
        told = told_answer(house, order, name, box)
        log.append((name, box, told if rng.random() < 0.9 else rng.choice((None, 0, 1))))
    return log


def shown(value):
    """A value with the kinds of all its parts, as it is now."""
    if isinstance(value, House):
        return "House", shown(value.names), shown(value.plates), shown(list(value.manners.items()))
    if isinstance(value, dict):
        return "dict", [shown(part) for part in value.items()]
    if isinstance(value, (list, tuple)):
        return type(value).__name__, [shown(part) for part in value]
    return type(value).__name__, value


def spoil(value):
    """Changes all lists and dicts of a value, as a caller may."""
    if isinstance(value, (list, tuple)):
        for part in value:
            spoil(part)
    if isinstance(value, list):
        value.append("spoiled")
        value.reverse()
    if isinstance(value, dict):
        value["spoiled"] = "spoiled"


class PlateTest(unittest.TestCase):
    def check(self, wanted, function, *args):
        """The result with the kinds of all its parts, once more after the first one was changed, too."""
        before = shown(args)
        got = function(*args)
        self.assertEqual(shown(got), shown(wanted))
        self.assertEqual(shown(args), before)
        wanted = shown(wanted)
        spoil(got)
        self.assertEqual(shown(args), before)
        self.assertEqual(shown(function(*args)), wanted)

    def check_error(self, error, function, *args, **attributes):
        """Just this error, with its attributes, twice, and nothing is changed by it."""
        before = shown(args)
        for _ in range(2):
            with self.subTest(args=args), self.assertRaises(PlateError) as caught:
                function(*args)
            self.assertEqual((type(caught.exception), vars(caught.exception)), (error, attributes))
            self.assertEqual(shown(args), before)

    def check_defined(self, module, *names):
        for name in names:
            self.assertEqual(getattr(module, name).__module__, module.__name__)


# Values that are no boxes of a house with three boxes, True and False among them.
NO_BOXES = (3, -1, 6, True, False, None, "0", (0,))
NO_NAMES = ("cat", "", "Ann", "ann ", "an", None, 0, True, ("ann",))
NO_ORDERS = ((), (0,), (0, 1, 2), (0, 0), (0, 3), (-1, 0), (True, 0), (1, False), None, [0, 1])
