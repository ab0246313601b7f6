"""Lines, whose sums stand at the top alone, and the cloth of tables and lines."""

from arrayloom.copies import copied


class Line:
    def __init__(self, name, axes, sums, term):
        self.name = name
        self.axes = copied(axes)
        self.sums = copied(sums)
        self.term = term


class Cloth:
    def __init__(self, wheel, lengths, arrays, tables, lines, outs):
        self.wheel = wheel
        self.lengths = copied(lengths)
        self.arrays = copied(arrays)
        self.tables = copied(tables)
        self.lines = copied(lines)
        self.outs = copied(outs)
