"""Lifting: each sum that does not stand at the top of its let becomes a line of its own."""

from arrayloom.lines import Cloth
from arrayloom.lines import Line
from arrayloom.parts import Part
from arrayloom.parts import parts_of
from arrayloom.parts import parts_right_within
from arrayloom.parts import sums_at_top
from arrayloom.parts import within_sums
from arrayloom.programs import axis_names
from arrayloom.programs import lengths_of
from arrayloom.programs import table_names
from arrayloom.terms import Guard
from arrayloom.terms import Number
from arrayloom.terms import Pair
from arrayloom.terms import Place
from arrayloom.terms import Read
from arrayloom.terms import Sum


def cloth_of(program):
    lines = lines_of(program)
    arrays = dict(program.tables)
    for line in lines:
        arrays[line.name] = line.axes
    return Cloth(program.wheel, lengths_of(program), arrays, table_names(program), lines, program.outs)


def lines_of(program):
    lifter = Lifter(axis_names(program))
    for let in program.lets:
        lifter.lift_let(let)
    return lifter.lines


# The lines of a program so far: they and the numbers in their names go on from let to let.
class Lifter:
    def __init__(self, known):
        self.known = known
        self.lines = []
        self.lifts = 0

    def lift_let(self, let):
        body = within_sums(Part(let.term, [], []))
        # What is lifted from the let must stand ahead of the let's own line.
        term = self.without_sums(body)
        self.lines.append(Line(let.name, let.axes, body.sums, term))

    def without_sums(self, part):
        if isinstance(part.term, Sum):
            return self.lift(part)
        if isinstance(part.term, (Pair, Guard)):
            within = [self.without_sums(inner) for inner in parts_right_within(part)]
            return part.term.made_of(within[0], within[1])
        return part.term

    def lift(self, part):
        sums = sums_at_top(part.term)
        # The sums further in come first, so the name is taken behind them.
        term = guarded(self.without_sums(within_sums(part)), part.guards)
        coming = axes_in(term)
        axes = [axis for axis in self.known if axis in coming and axis not in sums]
        name = self.fresh_name()
        self.lines.append(Line(name, axes, sums, term))
        return Read(name, [(axis, 0) for axis in axes])

    def fresh_name(self):
        number = self.lifts
        self.lifts = number + 1
        return f"s{number}"


# A lifted line is told at all its cells, also at those where the guards keep the let from looking at the sum; there the
# body may read beyond a rim.
def guarded(body, guards):
    term = body
    for guard, inner in reversed(guards):
        if inner:
            term = guard.made_of(term, Number(0))
        else:
            term = guard.made_of(Number(0), term)
    return term


def axes_in(term):
    axes = []
    for part in parts_of(term):
        axes.extend(axes_of(part.term))
    return axes


# The axes that a term has itself, not those of the terms that it is made of.
def axes_of(term):
    if isinstance(term, (Place, Guard)):
        return [term.axis]
    if isinstance(term, Read):
        return [axis for axis, shift in term.indexes if axis != ""]
    return []
