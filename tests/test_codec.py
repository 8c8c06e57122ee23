"""Point 29: the code of a house, and what of point 1 concerns it."""

import random

from lostplates import codec
from lostplates.codec import decode_house, encode_house
from lostplates.errors import DecodeError, InvalidHouse, PlateError
from lostplates.houses import House
from tests.example_runner import outcome
from tests.samples import PlateTest, house_of, sample_houses, shown

EXAMPLE_CODE = """
>>> from lostplates.codec import decode_house, encode_house
>>> from lostplates.houses import House
>>> values = encode_house(House(("a",), ("",), {"a": (None,)}))
>>> [values, decode_house(values).manners]
[[66, 1, 0, 1, 1, 1, 2, 6, 133], {'a': (None,)}]
"""

EXAMPLE_NO_BOXES = """
>>> from lostplates.codec import decode_house
>>> decode_house([66, 0])
raises DecodeError(offset=1)
"""

NO_INTEGERS = (True, False, None, "1", "", (1,), [1], {}, "a")
# Three households, a plate with a point, one without signs, and each kind of manners.
VALUES = [66, 3, 2, 1, 0, 0, 8, 0, 0, 0, 0, 0, 0, 0, 26, 3, 1, 1, 2, 1, 2, 1, 26, 2, 0, 6, 2, 1, 0]


def summed(values):
    """A list with the checksum of point 29 behind it."""
    checksum = 9
    for at in range(len(values)):
        checksum = (checksum * 21 + values[at]) % 241
    return list(values) + [checksum]


def told_code(house):
    """What point 29 says of the code of a house, but for the checksum."""
    texts = [len(house)]
    for text in house.plates + (None,) + house.names:
        if text is None:
            texts.append(len(house.names))
        else:
            texts += [len(text)] + [0 if sign == "." else ord(sign) - ord("a") + 1 for sign in text]
    for name in house.names:
        manner = house.manners[name]
        if isinstance(manner, str):
            texts.append(["back", "keep"].index(manner))
        else:
            texts += [2] + [{None: 6}.get(box, box) for box in manner]
    return [66] + texts


def told_ranges(values):
    """The limits of each item of a code, as far as the items tell them."""
    yield from [(66, 66), (1, 6)]
    at = 2

    def text(fewest, least):
        nonlocal at
        at += 1
        yield fewest, 8
        for _ in range(values[at - 1]):
            at += 1
            yield least, 26

    for _ in range(values[1]):
        yield from text(0, 0)
    at += 1
    yield 1, 6
    many = values[at - 1]
    for _ in range(many):
        yield from text(1, 1)
    for _ in range(many):
        at += 1
        yield 0, 2
        if values[at - 1] == 2:
            at += many
            yield from [(0, 6)] * many
    checksum = summed(values[:at])[-1]
    yield checksum, checksum


def told_first_wrong(values):
    """The offset of the first item that cannot stand there, or None."""
    many = 0
    for at, (least, most) in enumerate(told_ranges(values)):
        if at == len(values) or type(values[at]) is not int or not least <= values[at] <= most:
            return at
        many = at + 1
    return many if len(values) > many else None


class ExamplesTest(PlateTest):
    def test_examples(self):
        for example in (EXAMPLE_CODE, EXAMPLE_NO_BOXES):
            got, wanted = outcome(example)
            self.assertEqual(got, wanted)

    def test_interface_is_defined_in_the_file(self):
        self.check_defined(codec, "encode_house", "decode_house")


class ThereAndBackTest(PlateTest):
    def check_code(self, house, values):
        values = summed(values)
        self.check(values, encode_house, house)
        self.check(house, decode_house, values)
        self.assertEqual(decode_house(values), house)

    def test_one_household(self):
        self.check_code(House(("a",), ("",), {"a": "back"}), [66, 1, 0, 1, 1, 1, 0])
        self.check_code(House(("z",), (".",), {"z": "keep"}), [66, 1, 1, 0, 1, 1, 26, 1])
        self.check_code(House(("a",), ("",) * 6, {"a": (5,)}), [66, 6, 0, 0, 0, 0, 0, 0, 1, 1, 1, 2, 5])

    def test_three_households(self):
        house = House(("ab", "b", "z"), ("a.", "", ".......z"), {"ab": (0, None, 2), "b": "keep", "z": "back"})
        self.check_code(house, [66, 3, 2, 1, 0, 0, 8] + [0] * 7 + [26, 3, 2, 1, 2, 1, 2, 1, 26, 2, 0, 6, 2, 1, 0])
        house = House(("a", "ab", "z"), house.plates, {"a": (0, None, 2), "ab": "keep", "z": "back"})
        self.check_code(house, VALUES)

    def test_six_households(self):
        names = ("a", "b", "c", "d", "e", "zzzzzzzz")
        manners = dict(zip(names, ("back", (0, 1, 2, 3, 4, 5), "keep", (None,) * 6, "back", "keep")))
        values = [66, 6, 0, 1, 0, 0, 0, 0, 0, 6, 1, 1, 1, 2, 1, 3, 1, 4, 1, 5, 8] + [26] * 8
        values += [0, 2, 0, 1, 2, 3, 4, 5, 1, 2, 6, 6, 6, 6, 6, 6, 0, 1]
        self.check_code(House(names, ("", ".", "", "", "", ""), manners), values)

    def test_samples(self):
        for house in sample_houses(250, 55, most_names=6, most_boxes=6):
            self.check_code(house, told_code(house))
            self.assertTrue(all(0 <= item <= 255 for item in encode_house(house)))


class WrongCodesTest(PlateTest):
    def check_wrong(self, offset, values):
        self.check_error(DecodeError, decode_house, values, offset=offset)

    def test_the_list_ends_too_early(self):
        for house in sample_houses(20, 56, most_names=6, most_boxes=6):
            values = encode_house(house)
            for many in range(len(values)):
                self.check_wrong(many, values[:many])
        self.check_wrong(0, [])

    def test_an_item_after_the_checksum(self):
        for more in ([0], [66], [None], [1, 2, 3], [True]):
            self.check_wrong(7 + 1, summed([66, 1, 0, 1, 1, 1, 0]) + more)

    def test_wrong_checksums(self):
        right = summed(VALUES)
        for checksum in set(range(-1, 257)) - {right[-1]}:
            self.check_wrong(len(VALUES), VALUES + [checksum])
        self.check_wrong(len(VALUES), VALUES + [right[-1] + 241])
        self.check_wrong(len(VALUES), VALUES + [right[-1] + 1, 0])

    def test_a_boolean_is_no_checksum(self):
        # With this name the checksum is 1.
        found = []
        for letter in range(1, 27):
            for other in range(1, 27):
                values = summed([66, 1, 0, 1, 2, letter, other, 0])
                found += [values] * (values[-1] in (0, 1))
        self.assertEqual({values[-1] for values in found}, {0, 1})
        for values in found:
            self.assertIsInstance(decode_house(values), House)
            self.check_wrong(8, values[:-1] + [bool(values[-1])])

    def test_each_place(self):
        # What cannot stand there, next to what can.
        places = {
            0: (65, 67), 1: (0, 7), 2: (-1, 9), 3: (-1, 27), 4: (-1, 27), 5: (-1, 9), 6: (-1, 9), 14: (-1, 27),
            15: (0, 7), 16: (0, 9), 17: (0, 27), 18: (0, 9), 19: (0, 27), 20: (0, 27), 21: (0, 9), 22: (0, 27),
            23: (-1, 3), 24: (-1, 7), 25: (-1, 7), 26: (-1, 7), 27: (-1, 3), 28: (-1, 3),
        }
        for at, wrongs in places.items():
            for wrong in wrongs + (256, 10 ** 20) + NO_INTEGERS:
                self.check_wrong(at, VALUES[:at] + [wrong])
                self.check_wrong(at, VALUES[:at] + [wrong] + VALUES[at + 1:] + [0])
                self.check_wrong(at, VALUES[:at] + [wrong] + [None] * 50)

    def test_items_that_are_no_integers(self):
        values = summed(VALUES)
        for at in range(len(values)):
            for wrong in NO_INTEGERS:
                self.check_wrong(at, values[:at] + [wrong] + values[at + 1:])

    def test_the_house_is_wrong_only_if_the_whole_list_is_right(self):
        wrongs = (
            ("names", [66, 2, 0, 0, 2, 1, 1, 1, 1, 0, 0]), ("names", [66, 2, 0, 0, 2, 1, 2, 1, 1, 0, 0]),
            ("plates", [66, 1, 0, 2, 1, 1, 1, 2, 0, 0]), ("manners", [66, 1, 0, 1, 1, 1, 2, 1]),
            ("manners", [66, 5, 0, 0, 0, 0, 0, 1, 1, 1, 2, 5]),
        )
        for part, values in wrongs:
            self.check_error(InvalidHouse, decode_house, summed(values), part=part)
            self.check_wrong(len(values), values)
            self.check_wrong(len(values), values + [241])
            self.check_wrong(len(values) + 1, summed(values) + [0])

    def test_against_the_words_of_the_document(self):
        rng = random.Random(57)
        found = {}
        for house in sample_houses(800, 57, most_names=6, most_boxes=6):
            values = encode_house(house)
            at = rng.randrange(len(values))
            kind = rng.randint(0, 2)
            if kind == 0:
                values[at] = rng.choice((0, 1, 2, 6, 7, 8, 9, 26, 27, -1, True, False, None, "2"))
            elif kind == 1:
                del values[at:at + rng.randint(1, 3)]
            else:
                values.insert(at, rng.randint(0, 9))
            if rng.random() < 0.5 and not [item for item in values if type(item) is not int]:
                values = summed(values[:-1])
            wrong = told_first_wrong(values)
            before = shown(values)
            try:
                self.assertEqual(encode_house(decode_house(values)), values)
                self.assertIsNone(wrong)
            except PlateError as error:
                self.assertEqual(type(error), InvalidHouse if wrong is None else DecodeError, values)
                self.assertEqual(vars(error).get("offset"), wrong, values)
            self.assertEqual(shown(values), before)
            found[wrong] = True
        self.assertGreater(len(found), 30)


class HandedInTest(PlateTest):
    def test_the_list_is_not_kept(self):
        values = encode_house(house_of(("a", "b"), ("", ".")))
        house = decode_house(values)
        values.clear()
        self.assertEqual(house, house_of(("a", "b"), ("", ".")))
