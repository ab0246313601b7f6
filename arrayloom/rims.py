"""The whole looker: names, shapes, the work, and then each read at each of its spots."""

from arrayloom.errors import BeyondRim
from arrayloom.errors import NotYet
from arrayloom.errors import TooMuch
from arrayloom.parts import parts_of
from arrayloom.programs import arrays_of
from arrayloom.programs import cells_along
from arrayloom.programs import lengths_along
from arrayloom.programs import lengths_of
from arrayloom.shapes import look_names
from arrayloom.shapes import look_terms
from arrayloom.shapes import work_of
from arrayloom.terms import Read

MOST_WORK = 4000


def look(program):
    look_names(program)
    look_terms(program)
    look_work(program)
    look_reads(program)


def look_work(program):
    work = work_of(program)
    if work > MOST_WORK:
        raise TooMuch(f"the work is {work}, above {MOST_WORK}")


def look_reads(program):
    lengths = lengths_of(program)
    arrays = arrays_of(program)
    for let in program.lets:
        for part in parts_of(let.term):
            if isinstance(part.term, Read):
                look_spots(let, part, lengths, arrays[part.term.array])


def look_spots(let, part, lengths, axes):
    leads = leads_of(let, part, lengths)
    look_rims(let, part.term, leads, lengths_along(axes, lengths))
    if part.term.array == let.name:
        look_ahead(let, part.term, leads)


# A lead is a tuple (spot, cell): a reached spot of the read, and the cell that would be read there.
def leads_of(let, part, lengths):
    axes = let.axes + part.sums
    leads = []
    for spot in cells_along(axes, lengths):
        at = dict(zip(axes, spot))
        if is_reached(part.guards, at):
            leads.append((spot, part.term.cell_at(at)))
    return leads


def is_reached(guards, at):
    return all([guard.lets_in(at) == inner for guard, inner in guards])


def look_rims(let, read, leads, lengths):
    for spot, cell in leads:
        if not is_within(cell, lengths):
            raise BeyondRim(let.name, read.array, spot, cell)


def is_within(cell, lengths):
    return all([0 <= number < length for number, length in zip(cell, lengths)])


def look_ahead(let, read, leads):
    for spot, cell in leads:
        told = spot[:len(let.axes)]
        # Tuples are compared as row order asks: by the first place at which they are unlike.
        if not cell < told:
            raise NotYet(let.name, read.array, spot, cell)
