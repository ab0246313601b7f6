"""The tape of a cloth and a nest: what the machine does, row by row, for the loops, the deeds and their terms."""

from arrayloom.nests import NO_OUTER
from arrayloom.nests import is_loop
from arrayloom.terms import Guard
from arrayloom.terms import Number
from arrayloom.terms import Place
from arrayloom.terms import Read

NO_COUNTER = -1
PAIR_WORDS = {"+": "plus", "-": "minus", "*": "times"}


# Each loop's counter bears the loop's number.
def tape_of(cloth, nest):
    fresh, body = nest
    rows = []
    write_body(body, cloth.lines, rows)
    return rows


# In each row that leads to another place, this place comes last; so a row that leads onwards is written without it, and
# gets it once all that it leads over is written.
def lead_here(rows, place):
    rows[place] = rows[place] + (len(rows),)


def write_body(body, lines, rows):
    for node in body:
        if is_loop(node):
            write_loop(node, lines, rows)
        else:
            write_deed(node, lines, rows)


def write_loop(loop, lines, rows):
    kind, number, size, width, outer, body = loop
    looks = [("unless", number, 0, size)]
    if outer == NO_OUTER:
        rows.append(("zero", number))
    else:
        rows.append(("begin", number, outer, width))
        looks.append(("within", number, outer, width))
    again = len(rows)
    rows.extend(looks)
    write_body(body, lines, rows)
    rows.append(("step", number, again))
    for place in range(again, again + len(looks)):
        lead_here(rows, place)


# Which cells are wanted is asked of the homes, cell by cell, as the deeds of one loop may be wanted in part.
def write_deed(deed, lines, rows):
    kind, number, place, word, cell, turn = deed
    line = lines[place]
    address = (line.name, tuple([(counter, 0) for counter in cell]))
    unwanted = len(rows)
    rows.append(("skip",) + address)
    if word == "start":
        rows.append(("push", 0))
    else:
        write_term(line.term, dict(zip(line.axes + line.sums, cell + turn)), rows)
    rows.append(("gather" if word == "add" else "store",) + address)
    lead_here(rows, unwanted)


# counters are the numbers of counters by the axes for which they count.
def write_term(term, counters, rows):
    if isinstance(term, Number):
        rows.append(("push", term.number))
    elif isinstance(term, Place):
        rows.append(("count", counters[term.axis]))
    elif isinstance(term, Read):
        rows.append(("load", term.array, counted(term.indexes, counters)))
    elif isinstance(term, Guard):
        write_guard(term, counters, rows)
    else:
        write_term(term.left, counters, rows)
        write_term(term.right, counters, rows)
        rows.append((PAIR_WORDS[term.sign()],))


def counted(indexes, counters):
    return tuple([(counter_of(axis, counters), shift) for axis, shift in indexes])


def counter_of(axis, counters):
    if axis == "":
        return NO_COUNTER
    return counters[axis]


def write_guard(guard, counters, rows):
    asked = len(rows)
    rows.append(("unless", counters[guard.axis], guard.low, guard.high))
    write_term(guard.inner, counters, rows)
    done = len(rows)
    rows.append(("jump",))
    lead_here(rows, asked)
    write_term(guard.outer, counters, rows)
    lead_here(rows, done)
