"""Programs, cloths and nodes for the tests: what a test does not tell is as told here."""

from arrayloom.errors import LoomError
from arrayloom.lines import Cloth
from arrayloom.programs import Let
from arrayloom.programs import Program

AXES = [("x", 4), ("y", 3), ("k", 2), ("m", 5)]
TABLES = [("a", ["x"]), ("g", ["x", "y"]), ("n", [])]
LENGTHS = {"x": 2, "y": 3, "k": 2, "m": 1, "p": 1}


def weave(lets=(), axes=AXES, tables=TABLES, outs=None, wheel=10):
    if outs is None:
        outs = [let.name for let in lets] + [name for name, own in tables]
    return Program(wheel, list(axes), list(tables), list(lets), list(outs))


def one_let(term, axes=("x",), name="b"):
    """A program whose one let has this term, behind the tables of TABLES."""
    return weave([Let(name, list(axes), term)])


def refusal_of(asked, program):
    """The refusal of the program, which is asked twice, as a tuple of its name and its fields; or None."""
    first, second = refusal_once(asked, program), refusal_once(asked, program)
    if first != second:
        raise AssertionError(f"{first} the first time, {second} the second time")
    return first


def refusal_once(asked, program):
    try:
        answer = asked(program)
    except LoomError as refusal:
        fields = [field for field in ("name", "array", "spot", "cell") if hasattr(refusal, field)]
        return (type(refusal).__name__,) + tuple(getattr(refusal, field) for field in fields)
    if answer is not None:
        raise AssertionError(f"{answer} in the place of None")
    return None


def cloth_with(*lines, lengths=None, tables=None, outs=None, wheel=10):
    """tables are the axes of each table, by their names; outs are all lines where they are not told."""
    lengths, tables = lengths or dict(LENGTHS), tables or {}
    arrays = {**tables, **{line.name: line.axes for line in lines}}
    outs = [line.name for line in lines] if outs is None else outs
    return Cloth(wheel, lengths, arrays, list(tables), list(lines), outs)


def loop(number, size, *body):
    return ("loop", number, size, 0, -1, body)


def cut_loop(number, size, width, outer, *body):
    return ("loop", number, size, width, outer, body)


def deed(number, line, word, cell=(), turn=()):
    return ("deed", number, line, word, cell, turn)
