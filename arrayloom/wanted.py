"""Wanted cells: all cells of outs, and those that are read on the way to a wanted cell."""

from arrayloom.needs import read_by
from arrayloom.needs import written_by
from arrayloom.programs import cells_along
from arrayloom.steps import first_order


def wanted_of(cloth):
    return by_arrays(cloth, wanted_cells(cloth))


# Wanted cells are the keys, tuples (array, cell). In the first order all steps that read a cell come behind those that
# write it; so, going from the last step to the first, it is known at each step whether its own cell is wanted.
def wanted_cells(cloth):
    wanted = {}
    for written in cells_of_outs(cloth):
        wanted[written] = True
    for step in reversed(first_order(cloth)):
        if written_by(cloth, step) in wanted:
            for read in read_by(cloth, step):
                wanted[read] = True
    return wanted


def cells_of_outs(cloth):
    found = []
    for array in cloth.outs:
        found.extend([(array, cell) for cell in cells_along(cloth.arrays[array], cloth.lengths)])
    return found


# The cells of the keys (array, cell), for each array of the cloth, in row order.
def by_arrays(cloth, found):
    sorted_out = {}
    for array, axes in cloth.arrays.items():
        cells = cells_along(axes, cloth.lengths)
        sorted_out[array] = [cell for cell in cells if (array, cell) in found]
    return sorted_out
