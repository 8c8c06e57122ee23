"""Scripts: texts of rows that are executed on a hall."""

from lostplates.checks import consists_of, is_word
from lostplates.errors import ExecutionFailed, PlateError, ScriptError, TooLong
from lostplates.halls import Hall

# What the words behind the first one of a row are.
FORMS = {
    "post": ("name", "number"),
    "swap": ("name", "name"),
    "shift": ("name", "number"),
    "teach": ("yes or no",),
    "where": ("name",),
    "repeat": ("number",),
    "when": ("name", "number"),
    "end": (),
}
ANSWERS = {"yes": True, "no": False}
BLOCKS = ("repeat", "when")
DIGITS = "0123456789"
MOST_DIGITS = 2
MOST_ROWS = 60
MOST_DEEP = 4
MOST_STEPS = 300


def is_numeral(word):
    """Whether a word is a number of one or two digits without needless zeros."""
    return len(word) <= MOST_DIGITS and consists_of(word, DIGITS) and (len(word) == 1 or word[0] != "0")


def read_word(form, word):
    """What a word means, or None if it is not as it must be."""
    if form == "name":
        return word if is_word(word) else None
    if form == "number":
        return int(word) if is_numeral(word) else None
    return ANSWERS.get(word)


def read_row(line):
    """A tuple of the first word of a row and what the others mean, or None if this is no row of a script."""
    first, *others = line.split(" ")
    forms = FORMS.get(first, ())
    if first not in FORMS or len(others) != len(forms):
        return None
    values = [read_word(form, word) for form, word in zip(forms, others)]
    return None if None in values else (first, *values)


def read_script(text):
    """The list of all rows, and a dict from the index of the first row of each block to that of its end."""
    lines = [] if text == "" else text.split("\n")
    rows = []
    starts = []
    ends = {}
    for at, line in enumerate(lines):
        row = read_row(line)
        if at == MOST_ROWS or row is None:
            raise ScriptError(at)
        if row[0] in BLOCKS:
            if len(starts) == MOST_DEEP:
                raise ScriptError(at)
            starts.append(at)
        if row[0] == "end":
            if len(starts) == 0:
                raise ScriptError(at)
            ends[starts.pop()] = at
        rows.append(row)
    if len(starts) > 0:
        raise ScriptError(len(rows))
    return rows, ends


class Run:
    """The execution of a script on a hall."""

    def __init__(self, hall, rows, ends):
        self.output = []
        self._hall = hall
        self._rows = rows
        self._ends = ends
        self._steps = 0

    def execute_all(self, first, behind):
        """Execute all rows from one on, but not the one behind them."""
        at = first
        while at < behind:
            self._take_step()
            self._execute(at)
            at = self._ends.get(at, at) + 1

    def _take_step(self):
        if self._steps == MOST_STEPS:
            raise TooLong("the script takes too many steps")
        self._steps += 1

    def _execute(self, at):
        row = self._rows[at]
        if row[0] == "repeat":
            for _ in range(row[1]):
                self._take_step()
                self.execute_all(at + 1, self._ends[at])
        elif row[0] == "when":
            if self._box_of(row[1], at) == row[2]:
                self.execute_all(at + 1, self._ends[at])
        elif row[0] == "where":
            self.output.append(str(self._box_of(row[1], at)))
        else:
            self._operate(row, at)

    def _box_of(self, name, at):
        """The box of a household that a row names."""
        names = self._hall.house_now.names
        if name not in names:
            raise ExecutionFailed(at)
        return self._hall.living[names.index(name)]

    def _operate(self, row, at):
        """Execute a row that is an operation of the hall."""
        try:
            results = self._hall.apply_all([row])
        except PlateError:
            raise ExecutionFailed(at)
        if row[0] == "post":
            self.output.append("-" if results[0] is None else str(results[0]))


def run_script(house, order, text):
    """The hall behind a script, and the list of all lines that were written."""
    hall = Hall(house, order)
    rows, ends = read_script(text)
    run = Run(hall, rows, ends)
    run.execute_all(0, len(rows))
    return hall, run.output
