"""Needs: what a step reads and writes, and which steps ahead of it a step needs."""

from arrayloom.steps import first_order


def read_by(cloth, step):
    number, word, cell, turn = step
    if word == "start":
        return []
    line = cloth.lines[number]
    at = dict(zip(line.axes + line.sums, cell + turn))
    return line.term.reads(at, cloth.lengths)


def written_by(cloth, step):
    number, word, cell, turn = step
    return (cloth.lines[number].name, cell)


# A step needs another one ahead of it where it waits for a mark that the other one leaves: of a cell that it reads the
# mark "whole", left by each step that writes the cell; an add of its own cell the mark "begun", left by the start alone
# (so that adds do not wait for one another).
def marks_left(cloth, step):
    array, cell = written_by(cloth, step)
    if step[1] == "start":
        return [("whole", array, cell), ("begun", array, cell)]
    return [("whole", array, cell)]


def marks_awaited(cloth, step):
    # One cell may be read many times, and each need is told once.
    marks = [("whole", array, cell) for array, cell in sorted(set(read_by(cloth, step)))]
    if step[1] == "add":
        array, cell = written_by(cloth, step)
        marks.append(("begun", array, cell))
    return marks


def needs_of(cloth):
    needs = []
    places = {}
    for place, step in enumerate(first_order(cloth)):
        for mark in marks_awaited(cloth, step):
            needs.extend([(ahead, place) for ahead in places.get(mark, [])])
        for mark in marks_left(cloth, step):
            places.setdefault(mark, []).append(place)
    return sorted(needs)
