"""Nests of loops and deeds, and the first nest of a cloth."""

from arrayloom.programs import lengths_along

NO_OUTER = -1
NO_WIDTH = 0


def is_loop(node):
    return node[0] == "loop"


def body_of(loop):
    kind, number, size, width, outer, body = loop
    return body


def with_body(loop, body):
    kind, number, size, width, outer, former = loop
    return (kind, number, size, width, outer, body)


def first_nest(cloth):
    nodes = []
    fresh = 0
    for place, line in enumerate(cloth.lines):
        nodes.extend(nodes_of(place, line, cloth.lengths, fresh))
        fresh = fresh + nodes_in(line)
    return (fresh, tuple(nodes))


def nodes_in(line):
    if len(line.sums) == 0:
        return len(line.axes) + 1
    return len(line.axes) + 1 + len(line.sums) + 1


# fresh is the number of the first node; loops are numbered ahead of what stands within them, so all numbers are known
# before any loop is made.
def nodes_of(place, line, lengths, fresh):
    cell = numbers_from(fresh, line.axes)
    first = fresh + len(cell)
    if len(line.sums) == 0:
        inside = (("deed", first, place, "set", cell, ()),)
    else:
        turn = numbers_from(first + 1, line.sums)
        add = ("deed", first + 1 + len(turn), place, "add", cell, turn)
        start = ("deed", first, place, "start", cell, ())
        inside = (start,) + looped(turn, lengths_along(line.sums, lengths), (add,))
    return looped(cell, lengths_along(line.axes, lengths), inside)


def numbers_from(fresh, axes):
    return tuple(range(fresh, fresh + len(axes)))


def looped(numbers, sizes, inside):
    body = inside
    # The innermost loop is made first: it is the body of the one round it.
    for number, size in reversed(list(zip(numbers, sizes))):
        body = (("loop", number, size, NO_WIDTH, NO_OUTER, body),)
    return body
