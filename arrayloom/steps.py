"""Steps: the first order of a cloth's steps, and the steps that the loops and deeds of a nest do."""

from arrayloom.nests import NO_OUTER
from arrayloom.nests import is_loop
from arrayloom.programs import cells_along


def first_order(cloth):
    steps = []
    for number, line in enumerate(cloth.lines):
        turns = cells_along(line.sums, cloth.lengths)
        for cell in cells_along(line.axes, cloth.lengths):
            steps.extend(steps_of_cell(number, line, cell, turns))
    return steps


def steps_of_cell(number, line, cell, turns):
    # A line without sums has a turn, too, the cell () of no lengths; so the sums are asked, not the turns.
    if len(line.sums) == 0:
        return [(number, "set", cell, ())]
    adds = [(number, "add", cell, turn) for turn in turns]
    return [(number, "start", cell, ())] + adds


def steps_of(nest):
    steps = []
    do_body(nest[1], {}, steps)
    return steps


# counts are, by their numbers, what the loops count now. A loop that is done leaves its last count there: nothing asks
# for it, as deeds and outers name loops round them alone.
def do_body(body, counts, steps):
    for node in body:
        if is_loop(node):
            do_loop(node, counts, steps)
        else:
            steps.append(step_of(node, counts))


def do_loop(loop, counts, steps):
    kind, number, size, width, outer, body = loop
    for count in counts_of(size, width, outer, counts):
        counts[number] = count
        do_body(body, counts, steps)


def counts_of(size, width, outer, counts):
    if outer == NO_OUTER:
        return list(range(size))
    begin = counts[outer] * width
    return list(range(begin, min(begin + width, size)))


def step_of(deed, counts):
    kind, number, line, word, cell, turn = deed
    return (line, word, counts_at(cell, counts), counts_at(turn, counts))


def counts_at(numbers, counts):
    return tuple([counts[number] for number in numbers])
