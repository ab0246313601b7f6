"""Lives: from which gap of an order on, and up to which, a wanted cell is kept; and the crowd, where most cells are."""

from arrayloom.needs import read_by
from arrayloom.needs import written_by
from arrayloom.wanted import by_arrays
from arrayloom.wanted import cells_of_outs
from arrayloom.wanted import wanted_cells


def lives_of(cloth, steps):
    wanted = wanted_cells(cloth)
    firsts = firsts_of(cloth, steps)
    lasts = lasts_of(cloth, steps, wanted)
    lives = {}
    for array, cells in by_arrays(cloth, wanted).items():
        lives[array] = {}
        for cell in cells:
            # No step writes a table's cell: it is there from the first gap on.
            lives[array][cell] = (firsts.get((array, cell), 0), lasts[(array, cell)])
    return lives


def firsts_of(cloth, steps):
    firsts = {}
    for place, step in enumerate(steps):
        firsts.setdefault(written_by(cloth, step), place + 1)
    return firsts


def lasts_of(cloth, steps, wanted):
    lasts = {}
    for place, step in enumerate(steps):
        if written_by(cloth, step) in wanted:
            for read in read_by(cloth, step):
                lasts[read] = place
    # Put behind the reads: a cell of an out is kept to the end, even if it is read for the last time ahead of that.
    for kept in cells_of_outs(cloth):
        lasts[kept] = len(steps)
    return lasts


def crowd_of(cloth, steps):
    return crowd_among(lives_of(cloth, steps), len(steps))


# The crowd is told in the order in which lives_of puts arrays and cells: that of the cloth's arrays, and row order.
def crowd_among(lives, end):
    numbers = numbers_live(lives, end)
    # index tells the first of several gaps with as many cells.
    gap = numbers.index(max(numbers))
    crowd = []
    for array, spans in lives.items():
        crowd.extend([(array, cell) for cell, life in spans.items() if is_live(life, gap)])
    return (gap, crowd)


def is_live(life, gap):
    first, last = life
    return first <= gap <= last


# How many cells are live at each gap from 0 to end. Only where a life begins and where it has ended is put down, so
# that long lives cost no more than short ones.
def numbers_live(lives, end):
    changes = [0] * (end + 2)
    for spans in lives.values():
        for first, last in spans.values():
            changes[first] = changes[first] + 1
            changes[last + 1] = changes[last + 1] - 1
    numbers = []
    live = 0
    for change in changes[:end + 1]:
        live = live + change
        numbers.append(live)
    return numbers
