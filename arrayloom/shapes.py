"""The looker's looks at names, axes and terms, and the work of a program."""

from arrayloom.errors import NoName
from arrayloom.errors import NoShape
from arrayloom.parts import parts_of
from arrayloom.parts import sums_at_top
from arrayloom.programs import array_names
from arrayloom.programs import arrays_of
from arrayloom.programs import axis_names
from arrayloom.programs import lengths_along
from arrayloom.programs import lengths_of
from arrayloom.terms import Guard
from arrayloom.terms import Place
from arrayloom.terms import Read
from arrayloom.terms import Sum

MOST_LETTERS = 8
MOST_AXES = 3
# A place with such a name would read like the beginning of a guard or of a sum.
WORDS_OF_TERMS = ("if", "sum")


def look_names(program):
    look_told_names(axis_names(program) + array_names(program))
    look_outs(program.outs, array_names(program))
    for axes in arrays_of(program).values():
        look_axes(axes, axis_names(program))


def look_told_names(names):
    for place, name in enumerate(names):
        if not is_name(name):
            raise NoName(f"{name!r} is no name")
        if name in names[:place]:
            raise NoName(f"{name!r} is told twice")


def is_name(text):
    return is_of_letters(text) and len(text) <= MOST_LETTERS and text not in WORDS_OF_TERMS


# Python's own questions let letters by that are none of a to z.
def is_of_letters(text):
    return text != "" and all(["a" <= sign <= "z" for sign in text])


def look_outs(outs, names):
    if len(outs) == 0:
        raise NoName("there is no out")
    for place, out in enumerate(outs):
        if out not in names:
            raise NoName(f"the out {out!r} is no table and no let")
        if out in outs[:place]:
            raise NoName(f"the out {out!r} is told twice")


def look_axes(axes, known):
    if len(axes) > MOST_AXES:
        raise NoShape(f"{axes!r} are too many axes")
    for place, axis in enumerate(axes):
        if axis not in known:
            raise NoShape(f"{axis!r} is no axis of the program")
        if axis in axes[:place]:
            raise NoShape(f"the axis {axis!r} comes twice in one list")


def look_terms(program):
    known = axis_names(program)
    arrays = dict(program.tables)
    for let in program.lets:
        # A let may read itself, so it is there for its own term, but not for the terms ahead.
        arrays[let.name] = let.axes
        for part in parts_of(let.term):
            look_part(part, let, arrays, known)


def look_part(part, let, arrays, known):
    term = part.term
    bound = let.axes + part.sums
    if isinstance(term, (Place, Guard)):
        look_bound(term.axis, bound)
    if isinstance(term, Sum):
        look_sum(term.axis, bound, known)
    if isinstance(term, Read):
        look_read(term, bound, arrays)
        look_own_read(part, let)


def look_bound(axis, bound):
    if axis not in bound:
        raise NoShape(f"the axis {axis!r} is not bound")


def look_sum(axis, bound, known):
    if axis not in known:
        raise NoShape(f"{axis!r} is no axis of the program")
    if axis in bound:
        raise NoShape(f"the axis {axis!r} of a sum is bound already")


def look_read(read, bound, arrays):
    name = read.array
    if name not in arrays:
        raise NoName(f"{name!r} is no table, no let ahead and not the let itself")
    if len(read.indexes) != len(arrays[name]):
        raise NoShape(f"a read of {name!r} has another number of indexes than the array axes")
    for axis, shift in read.indexes:
        if axis != "":
            look_bound(axis, bound)


def look_own_read(part, let):
    # Every read stands within all sums at the top, so one sum more is a sum that does not stand there.
    if part.term.array == let.name and len(part.sums) > len(sums_at_top(let.term)):
        name = let.name
        raise NoShape(f"{name!r} reads itself within a sum that does not stand at the top")


def work_of(program):
    lengths = lengths_of(program)
    work = 0
    for name, axes in program.tables:
        work = work + cell_count(axes, lengths)
    for let in program.lets:
        for part in parts_of(let.term):
            work = work + cell_count(let.axes + part.sums, lengths)
    return work


# The cells are counted, not made: work that is refused may have far too many of them.
def cell_count(axes, lengths):
    count = 1
    for length in lengths_along(axes, lengths):
        count = count * length
    return count
