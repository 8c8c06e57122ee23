"""Point 28: the text of a house, and what of point 1 concerns it."""

import random
import re

from lostplates import notation
from lostplates.errors import InvalidHouse, InvalidText, PlateError
from lostplates.houses import House
from lostplates.notation import format_house, parse_house
from tests.example_runner import outcome
from tests.samples import PlateTest, house_of, sample_houses

EXAMPLE_TEXT = """
>>> from lostplates.houses import House
>>> from lostplates.notation import format_house, parse_house
>>> house = House(("ant", "bee"), ("", "b..", ""), {"ant": (None, 0), "bee": "back"})
>>> [format_house(house), parse_house(format_house(house)) == house]
['plates - b.. -\\nguess ant - 0\\nback bee', True]
"""

EXAMPLE_MISSING_BOX = """
>>> from lostplates.notation import parse_house
>>> parse_house("plates -\\nguess ant")
raises InvalidText(row=1, word=2)
"""

NAMES = ("a", "ab", "abcdefgh", "b", "ccc", "z")
NO_NAMES = ("", "Ann", "a.", "-", "ninewords", "a1", "1", "\t", "a\r", "plates\t", "\u00e4")
NO_PLATES = ("", "--", "A", "ninewords", ".........", "a-b", "1", "a1", "..\t", "\u00e4", "*", "-.")
NO_BOXES = ("", "10", "-1", "--", "a", ".", "01", "\u0663", "\u00b2", "None", "+1", "1.")


def told_text(house):
    """What point 28 says of the text of a house."""
    text = "plates" + "".join(" " + (plate or "-") for plate in house.plates)
    for name in house.names:
        manner = house.manners[name]
        if isinstance(manner, str):
            text += "\n" + manner + " " + name
        else:
            text += "\nguess " + name + "".join(" -" if box is None else f" {box}" for box in manner)
    return text


def told_first_wrong(text):
    """The row and the word of the first word that is wrong, superfluous or missing, or None."""
    rows = [row.split(" ") for row in text.split("\n")]
    names = [""]
    for row, words in enumerate(rows):
        if row == 0:
            patterns = ["plates", "-|[a-z.]{1,8}"] + ["(-|[a-z.]{1,8})?"] * 5
        elif row > 6:
            patterns = []
        else:
            boxes = ["-|[0-9]"] * (len(rows) - 1) if words[0] == "guess" else []
            patterns = ["back|keep|guess", "[a-z]{1,8}"] + boxes
        for at in range(max(len(words), len(patterns))):
            word = words[at] if at < len(words) else None
            pattern = patterns[at] if at < len(patterns) else None
            if word is None and "?" in pattern:
                continue
            # A word that may be missing is still not empty if it is there.
            if not word or not pattern or not re.fullmatch(pattern, word, re.ASCII):
                return row, at
            if row > 0 and at == 1 and word <= names[-1]:
                return row, at
        names += words[1:2] if row > 0 else []
    return (1, 0) if len(rows) == 1 else None


def spoiled(rng, text):
    """A text in which something is changed."""
    for _ in range(rng.randint(1, 2)):
        at = rng.randint(0, len(text))
        kind = rng.randint(0, 3)
        if kind == 0:
            text = text[:at] + rng.choice(" \n-.a1Z9") + text[at:]
        elif kind == 1:
            text = text[:at] + text[at + rng.randint(1, 4):]
        else:
            rows = [row.split(" ") for row in text.split("\n")]
            row = rng.choice(rows)
            if kind == 2:
                others = ("", "-", "a", "zz", "0", "9", "10", "back", "guess", "plates")
                row[rng.randrange(len(row))] = rng.choice(others)
            else:
                rows.insert(rng.randint(0, len(rows)), list(rng.choice(rows)))
            text = "\n".join(" ".join(words) for words in rows)
    return text


class ExamplesTest(PlateTest):
    def test_examples(self):
        for example in (EXAMPLE_TEXT, EXAMPLE_MISSING_BOX):
            got, wanted = outcome(example)
            self.assertEqual(got, wanted)

    def test_interface_is_defined_in_the_file(self):
        self.check_defined(notation, "format_house", "parse_house")


class ThereAndBackTest(PlateTest):
    def check_text(self, house, text):
        self.check(text, format_house, house)
        self.check(house, parse_house, text)
        self.assertEqual(parse_house(text), house)

    def test_one_household(self):
        self.check_text(House(("a",), ("",), {"a": "back"}), "plates -\nback a")
        self.check_text(House(("a",), (".",), {"a": "keep"}), "plates .\nkeep a")
        self.check_text(House(("a",), ("",), {"a": (None,)}), "plates -\nguess a -")
        self.check_text(House(("a",), ("",) * 6, {"a": (5,)}), "plates - - - - - -\nguess a 5")

    def test_six_households(self):
        plates = ("", "a", "..", "abcdefgh", "........", "b")
        text = "plates - a .. abcdefgh ........ b\nback a\nkeep ab\nback abcdefgh\nkeep b\nback ccc\nback z"
        manners = {"a": "back", "ab": "keep", "abcdefgh": "back", "b": "keep", "ccc": "back", "z": "back"}
        self.check_text(House(NAMES, plates, manners), text)
        text = text.replace("back z", "guess z 0 1 2 3 4 5").replace("keep ab", "guess ab - - 0 - - -")
        manners.update({"z": (0, 1, 2, 3, 4, 5), "ab": (None, None, 0, None, None, None)})
        self.check_text(House(NAMES, plates, manners), text)

    def test_plates_like_words_of_the_text(self):
        house = House(("back", "guess", "keep", "plates"), ("plates", "back", "", ""), {
            "back": "keep", "guess": (0, 1, None, 3), "keep": "back", "plates": "back",
        })
        self.check_text(house, "plates plates back - -\nkeep back\nguess guess 0 1 - 3\nback keep\nback plates")

    def test_samples(self):
        for house in sample_houses(250, 53, most_names=6, most_boxes=6):
            self.check_text(house, told_text(house))


class WrongTextsTest(PlateTest):
    def check_wrong(self, row, word, *rows):
        text = "\n".join(rows)
        self.check_error(InvalidText, parse_house, text, row=row, word=word)
        self.assertEqual(told_first_wrong(text), (row, word))

    def test_nothing(self):
        self.check_wrong(0, 0, "")
        self.check_wrong(0, 0, "", "")
        self.check_wrong(0, 0, "", "plates -", "back a")
        self.check_wrong(0, 0, " ")

    def test_another_first_word_of_the_first_row(self):
        for word in ("plate", "Plates", "PLATES", "plates:", "-", "back", "plates\t", "\tplates"):
            self.check_wrong(0, 0, word + " - -", "back a")
            self.check_wrong(0, 0, word)

    def test_no_plate(self):
        self.check_wrong(0, 1, "plates", "back a")
        self.check_wrong(0, 1, "plates")
        self.check_wrong(0, 1, "plates ", "back a")

    def test_wrong_plates(self):
        for plate in NO_PLATES:
            self.check_wrong(0, 1, f"plates {plate}", "back a")
            self.check_wrong(0, 3, f"plates - a.b {plate} -", "back a")
            self.check_wrong(0, 6, f"plates - - - - - {plate}", "back a")

    def test_the_seventh_plate(self):
        self.check_wrong(0, 7, "plates - - - - - - -", "back a")
        self.check_wrong(0, 7, "plates - - - - - - A B", "Back a")
        self.check_wrong(0, 5, "plates - - - - A - -", "back a")

    def test_no_household(self):
        self.check_wrong(1, 0, "plates -")
        self.check_wrong(1, 0, "plates - - - - - -")

    def test_another_first_word_of_a_household(self):
        for word in ("Back", "plates", "keeps", "a", "-", "", "guess\t", "0"):
            self.check_wrong(1, 0, "plates - -", f"{word} a 0 0", "back b")
            self.check_wrong(2, 0, "plates - -", "back a", f"{word} b", "back c")
            self.check_wrong(2, 0, "plates - -", "back a", f"{word}")

    def test_no_name(self):
        for word in ("back", "keep", "guess"):
            self.check_wrong(1, 1, "plates - -", word, "back b")
            self.check_wrong(2, 1, "plates - -", "back a", word)

    def test_names_that_are_no_words(self):
        for name in NO_NAMES:
            for word in ("back", "keep", "guess"):
                self.check_wrong(1, 1, "plates - -", f"{word} {name}", "back b")
                self.check_wrong(2, 1, "plates - -", "back a", f"{word} {name} 0 0")

    def test_names_that_are_not_greater(self):
        for one, other in (("a", "a"), ("b", "a"), ("ab", "a"), ("b", "az"), ("z", "abcdefgh")):
            self.check_wrong(2, 1, "plates - -", f"back {one}", f"keep {other}")
            self.check_wrong(3, 1, "plates - - -", "back a", f"guess {one}a - - -", f"guess {other} - - -")
        # It is greater than the one before the one before only.
        self.check_wrong(3, 1, "plates - - -", "back a", "back c", "back b")

    def test_wrong_boxes(self):
        for box in NO_BOXES:
            self.check_wrong(1, 2, "plates - -", f"guess a {box}")
            self.check_wrong(1, 2, "plates - -", f"guess a {box} 0", "back b")
            self.check_wrong(2, 3, "plates - -", "back a", f"guess b - {box}")

    def test_too_few_boxes(self):
        self.check_wrong(1, 2, "plates - -", "guess a")
        self.check_wrong(1, 2, "plates - -", "guess a", "back b")
        self.check_wrong(1, 3, "plates - -", "guess a 0", "back b")
        self.check_wrong(2, 4, "plates - - -", "guess a 0 - 1", "guess b 0 -", "back c")

    def test_too_many_boxes(self):
        self.check_wrong(1, 3, "plates - -", "guess a 0 1")
        self.check_wrong(1, 4, "plates - -", "guess a 0 1 1 1", "back b")
        self.check_wrong(1, 3, "plates - -", "guess a 0 x")
        self.check_wrong(1, 2, "plates - -", "guess a x 0")

    def test_superfluous_words(self):
        for word in ("back", "keep"):
            for more in ("0", "-", "a", "", "- -"):
                self.check_wrong(1, 2, "plates - -", f"{word} a {more}")
                self.check_wrong(2, 2, "plates - -", "back a", f"{word} b {more}")

    def test_the_seventh_household(self):
        six = [f"back {name}" for name in NAMES]
        self.check_wrong(7, 0, "plates - - - - - -", *six, "back zz")
        self.check_wrong(7, 0, "plates - - - - - -", *six, "guess zz")
        self.check_wrong(7, 0, "plates - - - - - -", *six, "", "back zzz")
        self.check_wrong(3, 0, "plates - - - - - -", *six[:2], "Back b", *six[3:], "back zz")

    def test_all_rows_are_counted_for_the_boxes(self):
        six = [f"back {name}" for name in NAMES[:5]] + ["guess z - - - - - -"]
        self.check_wrong(6, 8, "plates - - - - - -", *six, "back zz")
        self.check_wrong(7, 0, "plates - - - - - -", *six[:5], "guess z - - - - - - -", "back zz")
        self.check_wrong(1, 3, "plates - -", "guess a 0", "Back b")
        self.check_wrong(2, 0, "plates - -", "guess a 0 1", "Back b")
        self.check_wrong(1, 3, "plates - -", "guess a 0", "")
        self.check_wrong(2, 0, "plates - -", "guess a 0 1", "")

    def test_empty_rows(self):
        self.check_wrong(1, 0, "plates - -", "", "back a")
        self.check_wrong(2, 0, "plates - -", "back a", "", "back b")

    def test_a_line_feed_at_the_end(self):
        self.check_wrong(2, 0, "plates - -", "back a", "")
        self.check_wrong(1, 0, "plates - -", "")
        self.check_wrong(7, 0, "plates - - - - - -", *[f"back {name}" for name in NAMES], "")

    def test_blanks(self):
        self.check_wrong(0, 0, " plates - -", "back a")
        self.check_wrong(0, 3, "plates - - ", "back a")
        self.check_wrong(0, 2, "plates -  -", "back a")
        self.check_wrong(1, 0, "plates - -", " back a")
        self.check_wrong(1, 1, "plates - -", "back  a")
        self.check_wrong(1, 2, "plates - -", "back a ")
        self.check_wrong(1, 3, "plates - -", "guess a 0 ")
        self.check_wrong(1, 3, "plates - -", "guess a 0  1", "back b")

    def test_other_white_space_does_not_separate(self):
        self.check_wrong(0, 0, "plates\t-", "back a")
        self.check_wrong(0, 1, "plates -\r", "back a\r")
        self.check_wrong(0, 1, "plates -\u2028back a")
        self.check_wrong(1, 1, "plates -", "back a\x0bkeep b")

    def test_the_first_of_several(self):
        self.check_wrong(0, 2, "plates - A", "Back b", "guess a")
        self.check_wrong(1, 1, "plates - - -", "guess A 0 x", "back b")
        self.check_wrong(2, 1, "plates - - -", "back b", "guess a x", "back")
        self.check_wrong(2, 2, "plates -", "back a", "keep b c", "keep")

    def test_the_house_is_wrong_only_if_the_whole_text_is_right(self):
        self.check_error(InvalidHouse, parse_house, "plates -\nback a\nback b", part="plates")
        self.check_error(InvalidHouse, parse_house, "plates -\nguess a 1", part="manners")
        self.check_error(InvalidHouse, parse_house, "plates - - - - - -\nguess a 6", part="manners")
        self.check_error(InvalidHouse, parse_house, "plates - -\nback a\nguess b 9 -", part="manners")
        for digit in "23456789":
            self.check_error(InvalidHouse, parse_house, f"plates - -\nguess a {digit}", part="manners")
        self.check_error(InvalidHouse, parse_house, "plates -\nguess a 9 9\nback b", part="plates")
        self.check_wrong(2, 2, "plates -", "back a", "back b c")
        self.check_wrong(2, 0, "plates -", "guess a 9 -", "")

    def test_against_the_words_of_the_document(self):
        rng = random.Random(54)
        found = {}
        for house in sample_houses(1500, 54, most_names=6, most_boxes=6):
            text = spoiled(rng, told_text(house))
            wrong = told_first_wrong(text)
            try:
                self.assertEqual(told_text(parse_house(text)), text)
                self.assertIsNone(wrong, text)
            except PlateError as error:
                told = vars(error) if isinstance(error, InvalidHouse) else (error.row, error.word)
                self.assertEqual(type(error), InvalidText if wrong else InvalidHouse, text)
                self.assertEqual(told, wrong or told, text)
            found[wrong] = True
        self.assertGreater(len(found), 25)


class HandedInTest(PlateTest):
    def test_a_text_gives_a_new_house_each_time(self):
        one, other = parse_house("plates -\nback a"), parse_house("plates -\nback a")
        self.assertIsNot(one, other)
        self.assertEqual(one, other)

    def test_house_stays_as_it_was(self):
        house = house_of(("a", "b"), ("", ".", ""))
        self.check("plates - . -\nback a\nback b", format_house, house)
