"""Programs: axes with lengths, tables that are handed in, lets that tell arrays, and outs."""

from arrayloom.cells import cells_of
from arrayloom.copies import copied


class Let:
    def __init__(self, name, axes, term):
        self.name = name
        self.axes = copied(axes)
        self.term = term


class Program:
    def __init__(self, wheel, axes, tables, lets, outs):
        self.wheel = wheel
        self.axes = copied(axes)
        self.tables = copied(tables)
        self.lets = copied(lets)
        self.outs = copied(outs)


def axis_names(program):
    return [name for name, length in program.axes]


def table_names(program):
    return [name for name, axes in program.tables]


def array_names(program):
    return table_names(program) + [let.name for let in program.lets]


def lengths_of(program):
    return dict(program.axes)


def arrays_of(program):
    arrays = {}
    for name, axes in program.tables:
        arrays[name] = list(axes)
    for let in program.lets:
        arrays[let.name] = list(let.axes)
    return arrays


def lengths_along(axes, lengths):
    return [lengths[axis] for axis in axes]


def cells_along(axes, lengths):
    return cells_of(lengths_along(axes, lengths))
