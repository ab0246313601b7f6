"""Programs: axes with lengths, tables that are handed in, lets that tell arrays, and outs."""

from arrayloom.copies import copied


class Let:
    def __init__(self, name, axes, term):
        self.name = name
        self.axes = copied(axes)
        self.term = term


class Program:
    def __init__(self, wheel, axes, tables, lets, outs):
        self.wheel = wheel
        self.axes = copied(axes)
        self.tables = copied(tables)
        self.lets = copied(lets)
        self.outs = copied(outs)


def lengths_of(program):
    return dict(program.axes)


def arrays_of(program):
    arrays = {}
    for name, axes in program.tables:
        arrays[name] = list(axes)
    for let in program.lets:
        arrays[let.name] = list(let.axes)
    return arrays


def lengths_along(axes, lengths):
    return [lengths[axis] for axis in axes]
