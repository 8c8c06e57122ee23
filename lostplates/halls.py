"""Halls: houses with their households, which may change, and a history of all that was done."""

from lostplates.checks import are_two_names, check_box, check_name, check_order, is_word
from lostplates.errors import InvalidName, InvalidOperation, TakenBox, UnknownKept, UnknownName
from lostplates.learning import put
from lostplates.moving import exchanged
from lostplates.ordering import plates_agree

# What a hall is now is a dict with its `house`, its `order`, whether it `teaches`, the tuple of all letters that were
# `posted`, and a dict `kept` from names to what was kept under them. No such dict is changed any more once it is
# made, so it can be returned to. The next functions return the dict behind an operation, and the operation's result.


def behind_post(now, name, box):
    check_name(now["house"], name)
    check_box(now["house"], box)
    learned, word, handed = put(now["house"], now["order"], (name, box))
    later = {**now, "posted": now["posted"] + ((name, box, word),)}
    if now["teaches"]:
        later["house"] = learned
    return later, handed if word == "back" else None


def behind_swap(now, name, other):
    house = now["house"]
    if not are_two_names(house, (name, other)):
        raise UnknownName("these are no two households of the house")
    order = exchanged(now["order"], house.names.index(name), house.names.index(other))
    return {**now, "order": order}, plates_agree(house, order)


def behind_shift(now, name, box):
    house = now["house"]
    order = now["order"]
    check_name(house, name)
    check_box(house, box)
    if box in order:
        raise TakenBox("the box is not nobody's")
    at = house.names.index(name)
    return {**now, "order": order[:at] + (box,) + order[at + 1:]}, order[at]


def behind_teach(now, yes):
    return {**now, "teaches": yes}, now["teaches"]


def behind_keep_as(now, name):
    if not is_word(name):
        raise InvalidName("what is kept is kept under a word")
    kept = now["kept"]
    return {**now, "kept": {**kept, name: {**now, "kept": {}}}}, name in kept


def behind_fetch(now, name):
    kept = now["kept"]
    # Nothing is kept under what is no word; a value that cannot be a key is not looked for.
    if not is_word(name) or name not in kept:
        raise UnknownKept("nothing is kept under this name")
    return {**kept[name], "kept": kept}, len(kept[name]["posted"])


ACTIONS = {
    "post": behind_post,
    "swap": behind_swap,
    "shift": behind_shift,
    "teach": behind_teach,
    "keep_as": behind_keep_as,
    "fetch": behind_fetch,
}
ARGUMENT_COUNTS = {"post": 2, "swap": 2, "shift": 2, "teach": 1, "keep_as": 1, "fetch": 1, "undo": 0, "redo": 0}


def is_operation(operation):
    """Whether a value is a tuple of the name of an operation, or undo or redo, and as many arguments as it takes."""
    if not isinstance(operation, tuple) or len(operation) == 0 or not isinstance(operation[0], str):
        return False
    return ARGUMENT_COUNTS.get(operation[0]) == len(operation) - 1


def check_operations(operations):
    for index, operation in enumerate(operations):
        if not is_operation(operation):
            raise InvalidOperation(index)


# A moment is a tuple of what the hall is now; of all operations in effect, each one in a pair with what the hall was
# ahead of it; and of all operations that can be executed once more, the one that was undone last behind the others.


def executed(moment, operation):
    """The moment behind an operation, and the operation's result."""
    if operation[0] == "undo":
        return undone(moment)
    if operation[0] == "redo":
        return redone(moment)
    now, past, _ = moment
    action = ACTIONS[operation[0]]
    arguments = operation[1:]
    later, result = action(now, *arguments)
    return (later, past + ((operation, now),), ()), result


def undone(moment):
    _, past, again = moment
    if len(past) == 0:
        return moment, False
    operation, before = past[-1]
    return (before, past[:-1], again + (operation,)), True


def redone(moment):
    again = moment[2]
    if len(again) == 0:
        return moment, False
    later, _ = executed(moment, again[-1])
    return (later[0], later[1], again[:-1]), True


class Hall:
    """A house with its households, which may change."""

    def __init__(self, house, order):
        check_order(house, order)
        self._moment = ({"house": house, "order": order, "teaches": False, "posted": (), "kept": {}}, (), ())

    @property
    def house_now(self):
        return self._moment[0]["house"]

    @property
    def living(self):
        """The order in which the households live."""
        return self._moment[0]["order"]

    @property
    def teaches(self):
        return self._moment[0]["teaches"]

    @property
    def posted(self):
        """A new list of all letters that were put, with what became of them."""
        return list(self._moment[0]["posted"])

    @property
    def kept_under(self):
        """A new list of all names under which something is kept, ascending."""
        return sorted(self._moment[0]["kept"])

    @property
    def history(self):
        """A new list of all operations in effect, in order."""
        return [operation for operation, _ in self._moment[1]]

    def post(self, name, box):
        """Put a letter in a box, and return its answer."""
        return self._execute(("post", name, box))

    def swap(self, name, other):
        """Let two households exchange their boxes, and return whether the order fits then."""
        return self._execute(("swap", name, other))

    def shift(self, name, box):
        """Let a household move to a box that is nobody's, and return the box where it lived."""
        return self._execute(("shift", name, box))

    def teach(self, yes):
        """Tell whether households learn from now on, and return whether they did before."""
        return self._execute(("teach", yes))

    def keep_as(self, name):
        """Keep what the hall is now under a name, and return whether something is kept under it already."""
        return self._execute(("keep_as", name))

    def fetch(self, name):
        """Return to what was kept under a name last, and return how many letters had been put then."""
        return self._execute(("fetch", name))

    def undo(self):
        """Undo the last operation that is in effect, and return whether there was one."""
        return self._execute(("undo",))

    def redo(self):
        """Execute the operation that was undone last once more, and return whether there was one."""
        return self._execute(("redo",))

    def _execute(self, operation):
        moment, result = executed(self._moment, operation)
        self._moment = moment
        return result

    def apply_all(self, operations):
        """Execute operations, and return the list of their results."""
        check_operations(operations)
        moment = self._moment
        results = []
        for operation in operations:
            moment, result = executed(moment, operation)
            results.append(result)
        # An error of an operation leaves everything as before: the hall gets nothing ahead of the last one.
        self._moment = moment
        return results

    @classmethod
    def replay(cls, house, order, operations):
        """A hall after operations."""
        hall = cls(house, order)
        hall.apply_all(operations)
        return hall

    def tried_out(self, operations, keep):
        """Execute operations, keep what they change only if told so, and return the list of their results."""
        with Trial(self) as trial:
            results = self.apply_all(operations)
            if keep is True:
                trial.hold()
        return results


class Trial:
    """A context manager behind whose block a hall is as it was, unless `hold` was called in the block."""

    def __init__(self, hall):
        self._hall = hall
        self._before = None
        self._held = None

    def __enter__(self):
        self._before = self._hall._moment
        self._held = None
        return self

    def hold(self):
        """Let all that is done in the block stay."""
        self._held = True

    def __exit__(self, kind, value, trace):
        hall = self._hall
        if self._held is None:
            hall._moment = self._before
