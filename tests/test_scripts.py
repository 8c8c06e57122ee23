"""Point 30: scripts, and what of point 1 concerns them."""

import random
import re

from lostplates import scripts
from lostplates.errors import ExecutionFailed, InvalidOrder, PlateError, ScriptError, TooLong
from lostplates.halls import Hall
from lostplates.houses import House
from lostplates.scripts import run_script
from tests.example_runner import outcome
from tests.samples import NO_ORDERS, PlateTest, every_order, house_of, sample_houses, shown, spoil
from tests.test_halls import ToldHall, looks

EXAMPLE_SCRIPT = """
>>> from lostplates.houses import House
>>> from lostplates.scripts import run_script
>>> house = House(("ant", "bee"), ("", "b..", ""), {"ant": (None, 0), "bee": "back"})
>>> lines = ["post ant 1", "repeat 2", "swap ant bee", "where ant", "end", "when bee 1", "shift ant 2", "end"]
>>> hall, output = run_script(house, (0, 1), "\\n".join(lines))
>>> [hall.living, output, len(hall.history)]
[(2, 1), ['0', '1', '0'], 4]
"""

EXAMPLE_FAILED = """
>>> from lostplates.houses import House
>>> from lostplates.scripts import run_script
>>> house = House(("ant", "bee"), ("", "b..", ""), {"ant": (None, 0), "bee": "back"})
>>> run_script(house, (0, 1), "where cat")
raises ExecutionFailed(row=0)
"""

NO_NAMES = ("", "Ann", "ninewords", "a.", "-", "1", "a1", "ann\t", "\u00e4")
NO_NUMBERS = ("", "-1", "00", "01", "100", "000", "1.", "a", "+1", "-", "1\t", "\u0663", "\u00b2", "0x", "yes")
ROW = re.compile(
    "post NAME NUMBER|swap NAME NAME|shift NAME NUMBER|teach (yes|no)|where NAME|repeat NUMBER|when NAME NUMBER|end"
    .replace("NAME", "[a-z]{1,8}").replace("NUMBER", "(0|[1-9][0-9]?)"), re.ASCII,
)


def trio():
    return house_of(("ann", "bob"), ("", "", ""))


def told_wrong_row(text):
    """The row of which point 30 says that ScriptError has it, or None."""
    rows = text.split("\n") if text else []
    deep = 0
    for at, row in enumerate(rows):
        deep += row.startswith(("repeat ", "when ")) - (row == "end")
        if at == 60 or not ROW.fullmatch(row) or not 0 <= deep <= 4:
            return at
    return len(rows) if deep else None


def told_end(rows, at):
    """The index of the last row of what begins with a row."""
    deep = 0
    while True:
        deep += rows[at][0] in ("repeat", "when")
        deep -= rows[at][0] == "end"
        if deep == 0:
            return at
        at += 1


def told_steps(told, rows, at, behind):
    """Yields for each step the index of a row, or None for all rows of a repeat together."""
    while at < behind:
        end = told_end(rows, at)
        yield at
        if rows[at][0] == "repeat":
            for _ in range(int(rows[at][1])):
                yield None
                yield from told_steps(told, rows, at + 1, end)
        elif rows[at][0] == "when":
            if dict(zip(told.first[0].names, told.looks()["living"]))[rows[at][1]] == int(rows[at][2]):
                yield from told_steps(told, rows, at + 1, end)
        at = end + 1


def told_row(told, output, words):
    """Executes a row, but not those in a block."""
    living = dict(zip(told.first[0].names, told.looks()["living"]))
    if words[0] == "where":
        output.append(str(living[words[1]]))
    elif words[0] == "when":
        living[words[1]]
    elif words[0] == "teach":
        told.execute(("teach", words[1] == "yes"))
    elif words[0] != "repeat":
        result = told.execute(tuple(int(word) if word.isdigit() else word for word in words))
        if words[0] == "post":
            output.append("-" if result is None else str(result))


def told_script(house, order, text):
    """What point 30 says of a script: what can be read off the hall, and the output; or the error."""
    wrong = told_wrong_row(text)
    if wrong is not None:
        return ScriptError, {"row": wrong}
    rows = [row.split() for row in text.split("\n")] if text else []
    told, output = ToldHall(house, order), []
    for count, at in enumerate(told_steps(told, rows, 0, len(rows))):
        if count == 300:
            return TooLong, {}
        if at is not None:
            try:
                told_row(told, output, rows[at])
            except (PlateError, KeyError):
                return ExecutionFailed, {"row": at}
    return told.looks(), output


def sample_rows(rng, house, deep):
    """The rows of a script, with blocks in it."""
    names = house.names + ("cat",) * (rng.random() < 0.02)
    rows = []
    for _ in range(rng.randint(0, 4)):
        name, other, box = rng.choice(names), rng.choice(names), rng.randint(0, len(house) - (rng.random() < 0.98))
        row = rng.choice((
            f"post {name} {box}", f"post {name} {box}", f"teach {rng.choice(('yes', 'no'))}", f"where {name}",
            f"shift {name} {box}", f"swap {name} {other}", f"repeat {rng.choice((0, 1, 2, 3, 20, 99))}",
            f"when {name} {box}", f"when {name} {box}",
        ))
        if row.startswith("swap") and name == other or row.startswith("shift") and rng.random() < 0.6:
            row = f"where {name}"
        rows.append(row)
        if row.startswith(("repeat", "when")):
            rows += sample_rows(rng, house, deep + 1) if deep < 4 else []
            rows.append("end")
    return rows


def sample_text(rng, house):
    rows = sample_rows(rng, house, 0)[:60]
    if rng.random() < 0.1 and rows:
        wrong = rng.choice(("end", "repeat 2", "jump", "", "post ann", "where ann ", "when a 0"))
        rows.insert(rng.randint(0, len(rows)), wrong)
    return "\n".join(rows)


class ScriptTest(PlateTest):
    def check_script(self, house, order, text, living, output, history):
        """What a script gives, twice; what is returned may be changed by the caller."""
        before = shown((house, order))
        for _ in range(2):
            hall, lines = run_script(house, order, text)
            self.assertIs(type(hall), Hall)
            self.assertEqual(shown((hall.living, lines)), shown((living, output)))
            self.assertEqual(shown(hall.history), shown(history))
            self.assertEqual(shown((house, order)), before)
            spoil(lines)
            hall.undo()

    def check_wrong(self, row, *rows, house=None, order=(0, 1)):
        text = "\n".join(rows)
        self.check_error(ScriptError, run_script, house or trio(), order, text, row=row)
        self.assertEqual(told_wrong_row(text), row)

    def check_failed(self, row, *rows, house=None):
        text = "\n".join(rows)
        self.check_error(ExecutionFailed, run_script, house or trio(), (0, 1), text, row=row)

    def check_long(self, *rows):
        self.check_error(TooLong, run_script, trio(), (0, 1), "\n".join(rows))


class ExamplesTest(PlateTest):
    def test_examples(self):
        for example in (EXAMPLE_SCRIPT, EXAMPLE_FAILED):
            got, wanted = outcome(example)
            self.assertEqual(got, wanted)

    def test_interface_is_defined_in_the_file(self):
        self.check_defined(scripts, "run_script")


class RowsTest(ScriptTest):
    def test_the_empty_text(self):
        self.check_script(trio(), (0, 1), "", (0, 1), [], [])

    def test_post(self):
        house = House(("a", "b", "c"), ("",) * 4, {"a": (None, 1, 1), "b": (None, None, None), "c": "keep"})
        text = "post a 0\npost a 1\npost c 0\npost a 2\npost a 3"
        history = [("post", "a", 0), ("post", "a", 1), ("post", "c", 0), ("post", "a", 2), ("post", "a", 3)]
        self.check_script(house, (0, 1, 2), text, (0, 1, 2), ["-", "0", "1", "-", "-"], history)

    def test_swap(self):
        self.check_script(trio(), (0, 1), "swap bob ann", (1, 0), [], [("swap", "bob", "ann")])

    def test_shift(self):
        text = "shift ann 2\nshift bob 0"
        self.check_script(trio(), (0, 1), text, (2, 0), [], [("shift", "ann", 2), ("shift", "bob", 0)])

    def test_teach(self):
        house = House(("a", "b"), ("", "", ""), {"a": (None, 2), "b": "back"})
        for words, later in ((("yes",), True), (("no",), False), (("yes", "no"), False), (("no", "yes"), True)):
            text = "\n".join([f"teach {word}" for word in words])
            hall, output = run_script(house, (0, 1), text)
            self.assertIs(hall.teaches, later)
            self.assertEqual(shown((hall.history, output)), shown(([("teach", word == "yes") for word in words], [])))
        house = House(("a", "b", "c"), ("",) * 3, {"a": (None, None, 1), "b": "back", "c": "back"})
        hall, output = run_script(house, (0, 1, 2), "teach yes\npost c 0\nteach no\npost c 0")
        self.assertEqual(output, ["1", "0"])
        self.assertEqual(hall.house_now.manners["a"], (None, None, None))

    def test_where(self):
        text = "where ann\nwhere bob\nshift ann 2\nwhere ann"
        self.check_script(trio(), (0, 1), text, (2, 1), ["0", "1", "2"], [("shift", "ann", 2)])

    def test_repeat(self):
        swap = ("swap", "ann", "bob")
        for count in (0, 1, 2, 3, 10, 99):
            text = f"repeat {count}\nswap ann bob\nend\nwhere ann"
            self.check_script(trio(), (0, 1), text, (count % 2, 1 - count % 2), [str(count % 2)], [swap] * count)

    def test_repeat_without_rows(self):
        for count in (0, 1, 99):
            self.check_script(trio(), (0, 1), f"repeat {count}\nend", (0, 1), [], [])

    def test_when(self):
        self.check_script(trio(), (0, 1), "when ann 0\nwhere bob\nend\nwhere ann", (0, 1), ["1", "0"], [])
        self.check_script(trio(), (0, 1), "when ann 1\nwhere bob\nend\nwhere ann", (0, 1), ["0"], [])
        self.check_script(trio(), (0, 1), "when ann 0\nend\nwhen ann 1\nend", (0, 1), [], [])

    def test_when_a_box_that_there_is_not(self):
        self.check_script(trio(), (0, 1), "when ann 3\nwhere cat\nend\nwhen ann 99\nend", (0, 1), [], [])

    def test_when_is_asked_at_its_begin_alone(self):
        text = "when ann 0\nshift ann 2\nwhere ann\nend"
        self.check_script(trio(), (0, 1), text, (2, 1), ["2"], [("shift", "ann", 2)])

    def test_blocks_in_blocks(self):
        text = "\n".join([
            "repeat 2", "when ann 0", "repeat 3", "when bob 1", "swap ann bob", "end", "where ann", "end", "end",
            "when ann 1", "swap ann bob", "end", "end",
        ])
        swap = ("swap", "ann", "bob")
        self.check_script(trio(), (0, 1), text, (0, 1), ["1"] * 6, [swap] * 4)

    def test_four_blocks_deep(self):
        text = "\n".join(["repeat 2"] * 4 + ["where ann"] + ["end"] * 4)
        self.check_script(trio(), (0, 1), text, (0, 1), ["0"] * 16, [])
        text = "\n".join(["repeat 1"] * 3 + ["when ann 0", "end"] * 2 + ["end"] * 3 + ["repeat 1", "end"])
        self.check_script(trio(), (0, 1), text, (0, 1), [], [])

    def test_sixty_rows(self):
        self.check_script(trio(), (0, 1), "\n".join(["where ann"] * 60), (0, 1), ["0"] * 60, [])
        self.check_script(trio(), (0, 1), "\n".join(["repeat 1", "end"] * 30), (0, 1), [], [])

    def test_words_of_the_script_as_names(self):
        house = house_of(("end", "post", "repeat", "yes"), ("",) * 4)
        text = "where end\nswap repeat post\nwhen yes 3\npost post 0\nend"
        history = [("swap", "repeat", "post"), ("post", "post", 0)]
        self.check_script(house, (0, 1, 2, 3), text, (0, 2, 1, 3), ["0", "0"], history)

    def test_orders_need_not_fit(self):
        house = house_of(("ann", "bob"), ("b..", "", ""))
        self.check_script(house, (0, 1), "swap ann bob\nwhere bob", (1, 0), ["0"], [("swap", "ann", "bob")])


class HallBehindTest(ScriptTest):
    def test_history_undo_and_redo(self):
        rows = ("post ann 1", "where ann", "repeat 2", "shift ann 2", "shift ann 0", "end", "teach yes", "when ann 0",
                "swap ann bob", "end")
        hall, output = run_script(trio(), (0, 1), "\n".join(rows))
        history = [("post", "ann", 1)] + [("shift", "ann", 2), ("shift", "ann", 0)] * 2
        history += [("teach", True), ("swap", "ann", "bob")]
        self.assertEqual(shown((hall.history, output)), shown((history, ["0", "0"])))
        self.assertEqual(shown(looks(Hall.replay(trio(), (0, 1), history))), shown(looks(hall)))
        self.assertIs(hall.redo(), False)
        self.assertEqual([hall.undo() for _ in range(8)], [True] * 7 + [False])
        self.assertEqual(shown(looks(hall)), shown(looks(Hall(trio(), (0, 1)))))
        self.assertEqual([hall.redo() for _ in range(8)], [True] * 7 + [False])
        self.assertEqual(hall.living, (1, 0))


class ScriptErrorsTest(ScriptTest):
    def test_orders_first(self):
        for order in NO_ORDERS:
            self.check_error(InvalidOrder, run_script, trio(), order, "jump")
            self.check_error(InvalidOrder, run_script, trio(), order, "")

    def test_no_such_row(self):
        for row in (
            "jump", "Post ann 0", "post", "posts ann 0", "END", "ends", "undo", "redo", "keep_as x", "fetch x", "-",
            "0", "post ann", "post ann 0 0", "post 0 ann", "swap ann", "swap ann bob bob", "swap", "shift ann", "shift",
            "shift ann 0 1", "teach", "teach ann", "teach Yes", "teach yes no", "teach True", "teach 1", "where",
            "where ann bob", "repeat", "repeat 1 2", "repeat ann", "when", "when ann", "when ann 0 1", "when 0",
            "end 1", "end end", "", " ", "  ", "\t", "where\tann", "where ann\r", "where  ann", " where ann",
            "where ann ", "end ", " end", "repeat  1", "repeat 1 ", "teach  yes", "post ann  0", "post  0",
        ):
            self.check_wrong(0, row, "where ann")
            self.check_wrong(2, "where ann", "post ann 0", row, "where bob", row)
            self.check_wrong(1, "repeat 1", row, "end")

    def test_names_that_are_no_words(self):
        for name in NO_NAMES:
            for row in (f"post {name} 0", f"shift {name} 0", f"swap {name} ann", f"swap ann {name}", f"where {name}"):
                self.check_wrong(1, "where ann", row)
            self.check_wrong(1, "where ann", f"when {name} 0", "end")

    def test_numbers_that_are_none(self):
        for number in NO_NUMBERS:
            for row in (f"post ann {number}", f"shift ann {number}"):
                self.check_wrong(1, "where ann", row)
            self.check_wrong(1, "where ann", f"when ann {number}", "end")
            self.check_wrong(1, "where ann", f"repeat {number}", "end")

    def test_an_end_without_a_block(self):
        self.check_wrong(0, "end")
        self.check_wrong(1, "where ann", "end", "jump")
        self.check_wrong(2, "repeat 1", "end", "end")
        self.check_wrong(4, "repeat 1", "when ann 0", "end", "end", "end", "repeat 1")

    def test_a_missing_end(self):
        self.check_wrong(1, "repeat 1")
        self.check_wrong(1, "when ann 0")
        self.check_wrong(3, "repeat 0", "where ann", "where ann")
        self.check_wrong(4, "repeat 1", "when ann 0", "where ann", "end")
        self.check_wrong(60, *["repeat 1"], *["where ann"] * 59)

    def test_the_fifth_block(self):
        for first in ("repeat 1", "when ann 0", "repeat 0"):
            self.check_wrong(4, *["repeat 1"] * 4, first)
            self.check_wrong(4, *["when ann 0"] * 4, first, *["end"] * 5)
            self.check_wrong(7, *["repeat 1"] * 4, "where ann", "end", "repeat 1", first, *["end"] * 5)
            self.check_wrong(4, *["repeat 1"] * 4, first, "jump", "end")

    def test_the_61st_row(self):
        for row in ("where ann", "jump", "end", "repeat 1", ""):
            self.check_wrong(60, *["where ann"] * 60, row)
            self.check_wrong(60, *["where ann"] * 60, row, "jump", "where ann")
            self.check_wrong(60, "repeat 1", *["where ann"] * 59, row)
        self.check_wrong(59, *["where ann"] * 59, "jump", "where ann")

    def test_a_line_feed_at_the_end(self):
        self.check_wrong(1, "where ann", "")
        self.check_wrong(0, "", "")
        self.check_wrong(0, "", "where ann")
        self.check_wrong(1, "repeat 1", "")

    def test_ahead_of_every_execution(self):
        self.check_wrong(1, "where cat", "jump")
        self.check_wrong(7, *["repeat 99", "end"] * 3, "where ann", "jump")
        self.check_wrong(2, "swap ann ann", "repeat 0")
        self.check_wrong(3, "repeat 0", "where ann", "end", "end")


class ExecutionFailedTest(ScriptTest):
    def test_errors_of_operations(self):
        for row in (
            "post cat 0", "post ann 3", "post ann 99", "swap cat ann", "swap ann cat", "swap ann ann", "shift cat 2",
            "shift ann 3", "shift ann 0", "shift ann 1", "where cat",
        ):
            self.check_failed(0, row)
            self.check_failed(0, row, "where cat")
            self.check_failed(2, "where ann", "teach yes", row, "where bob")
            self.check_failed(1, "repeat 1", row, "end")
            self.check_failed(3, "when ann 0", "where ann", "repeat 2", row, "end", "end")
            # Only if it is executed.
            self.check_script(trio(), (0, 1), f"repeat 0\n{row}\nend\nwhen ann 1\n{row}\nend", (0, 1), [], [])

    def test_when_with_an_unknown_name(self):
        for box in (0, 2, 99):
            self.check_failed(1, "where ann", f"when cat {box}", "where ann", "end")
            self.check_failed(1, "repeat 2", f"when cat {box}", "end", "end")
            self.check_script(trio(), (0, 1), f"repeat 0\nwhen cat {box}\nend\nend", (0, 1), [], [])

    def test_in_a_later_round(self):
        self.check_failed(2, "repeat 2", "where ann", "shift ann 2", "end")
        self.check_script(trio(), (0, 1), "repeat 1\nshift ann 2\nend", (2, 1), [], [("shift", "ann", 2)])


class TooLongTest(ScriptTest):
    FULL = ("repeat 99", "end") * 3

    def check_most(self, *rows):
        """These rows take just 300 steps, and with one step more, it is too long."""
        self.assertEqual(type(run_script(trio(), (0, 1), "\n".join(rows))[0]), Hall)
        for row in (("where ann",), ("post ann 0",), ("teach no",), ("repeat 0", "end"), ("when ann 1", "end"),
                    ("where cat",), ("swap ann ann",), ("when cat 0", "end")):
            self.check_long(*rows, *row)

    def test_rows_that_take_one_step(self):
        self.check_most(*self.FULL)
        for row in ("where ann", "post ann 0", "swap ann bob", "teach yes", "shift ann 2"):
            self.check_most(*self.FULL[:4], "repeat 98", "end", row)
        self.check_most(*self.FULL[:4], *["where ann"] * 50, "repeat 49", "end")

    def test_rounds_take_a_step_each(self):
        self.check_most("repeat 99", "where ann", "where ann", "end", "where ann", "where bob")
        self.check_most("repeat 99", "repeat 1", "end", "end", "repeat 1", "end")

    def test_blocks_that_are_not_executed_take_one_step(self):
        self.check_most(*self.FULL[:4], "repeat 98", "end", "when ann 1", "where ann", "where cat", "end")
        self.check_most(*self.FULL[:4], "repeat 98", "end", "repeat 0", "where ann", "where cat", "end")
        blocks = ("repeat 0", "where ann", "end", "when ann 2", "where ann", "end")
        self.check_most("repeat 99", *blocks, "end", "where ann", "where ann")

    def test_blocks_that_are_executed(self):
        self.check_most("repeat 99", "when ann 0", "where ann", "end", "end", "where ann", "where ann")
        # 1 + 7 * (1 + 1 + 20 * 2) + 5
        self.check_most("repeat 7", "repeat 20", "where ann", "end", "end", *["where ann"] * 5)

    def test_the_301st_step_is_a_round(self):
        self.check_long(*self.FULL[:4], "repeat 98", "end", "repeat 1", "end")
        self.check_long(*self.FULL[:4], "repeat 98", "end", "repeat 1", "where cat", "end")
        self.check_long(*self.FULL[:4], "repeat 99", "where ann", "end")
        self.check_long(*["repeat 99"] * 4, *["end"] * 4)

    def test_what_fails_ahead_of_it(self):
        self.check_failed(6, *self.FULL[:4], "repeat 98", "end", "where cat")
        self.check_failed(1, "repeat 99", "where cat", "where ann", "where ann", "where ann", "end")
        self.check_failed(2, "repeat 99", "repeat 99", "swap ann ann", "end", "end")


class DocumentTest(ScriptTest):
    def test_against_the_words_of_the_document(self):
        rng = random.Random(58)
        found = {}
        for house in sample_houses(400, 58):
            order = rng.choice(every_order(house))
            text = sample_text(rng, house)
            wanted = told_script(house, order, text)
            before = shown(house)
            try:
                hall, output = run_script(house, order, text)
                got = looks(hall), output
            except PlateError as error:
                got = type(error), vars(error)
            self.assertEqual(shown(got), shown(wanted), text)
            self.assertEqual(shown(house), before)
            kind = got[0] if isinstance(got[0], type) else "result"
            found[kind] = found.get(kind, 0) + 1
        self.assertLessEqual({"result", ScriptError, ExecutionFailed, TooLong}, set(found))
        self.assertGreater(found["result"], 100)
