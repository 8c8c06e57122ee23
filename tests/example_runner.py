"""Runs the examples of the document's interface as they are written there."""

from lostplates.errors import PlateError


def shown_error(error):
    told = ", ".join(f"{name}={value!r}" for name, value in vars(error).items())
    return f"raises {error.__class__.__name__}({told})"


def result_of(rows, names):
    """What the last row gives, as the document writes it, or the error that a row raises."""
    try:
        for row in rows[:-1]:
            exec(row, names)
        return repr(eval(rows[-1], names))
    except PlateError as error:
        return shown_error(error)


def outcome(example):
    """A pair: what an example gives, and what the document says that it gives."""
    lines = example.strip().split("\n")
    rows = [line[4:] for line in lines if line.startswith(">>> ")]
    wanted = [line for line in lines if not line.startswith(">>> ")]
    if len(wanted) != 1 or lines[-1] != wanted[0]:
        raise AssertionError("an example has rows with >>> and one line behind them")
    return result_of(rows, {}), wanted[0]
