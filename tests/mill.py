"""Programs that the looker lets by, nests, and tables for them, all by a seed; and plain walks to hold answers against.

The plain walks do not ask the terms themselves: they go over the fields alone.
"""

import itertools
import random

from arrayloom.programs import Let
from arrayloom.programs import Program
from arrayloom.programs import arrays_of
from arrayloom.programs import lengths_of
from arrayloom.terms import Guard
from arrayloom.terms import Minus
from arrayloom.terms import Number
from arrayloom.terms import Place
from arrayloom.terms import Plus
from arrayloom.terms import Read
from arrayloom.terms import Sum
from arrayloom.terms import Times

AXES = ("x", "y", "k", "m", "p")
PAIRS = (Plus, Minus, Times)


class Mill:
    """Reads are made so that the guards round them keep them within the rims; spans are what these guards leave."""

    def __init__(self, seed):
        self.dice = random.Random(seed)
        self.lengths = {}
        self.arrays = {}
        self.number = 0

    def program(self):
        self.lengths = {axis: self.dice.randint(1, 3) for axis in self.dice.sample(AXES, len(AXES))}
        tables = [(name, self.own_axes(3)) for name in "abc"[:self.dice.randint(0, 3)]]
        self.arrays = dict(tables)
        lets = [self.let(name) for name in "defg"[:self.dice.randint(1, 4)]]
        outs = self.dice.sample(sorted(self.arrays), self.dice.randint(1, len(self.arrays)))
        wheel = self.dice.choice([2, 7, 10, 10 ** 12])
        return Program(wheel, list(self.lengths.items()), tables, lets, outs)

    def tables(self, program):
        tables = {}
        for name, axes in program.tables:
            tables[name] = [self.dice.randint(-10 ** 15, 10 ** 15) for cell in cells(axes, lengths_of(program))]
        return tables

    def own_axes(self, most):
        return self.dice.sample(AXES, self.dice.randint(0, most))

    def let(self, name):
        axes = self.own_axes(2)
        sums = [axis for axis in self.own_axes(2) if axis not in axes] if self.dice.random() < 0.4 else []
        spans = {axis: (0, self.lengths[axis]) for axis in axes + sums}
        term = self.term(self.dice.randint(1, 5), spans, Let(name, axes, None))
        for axis in reversed(sums):
            term = Sum(axis, term)
        self.arrays[name] = axes
        return Let(name, axes, term)

    def term(self, depth, spans, own):
        """own is the let, for its name and axes, where it may read itself; else None."""
        free = [axis for axis in AXES if axis not in spans]
        roll = self.dice.random()
        if depth == 0 or roll < 0.1:
            return self.leaf(spans, own)
        if roll < 0.4:
            left = self.term(depth - 1, spans, own)
            right = left if self.dice.random() < 0.15 else self.term(depth - 1, spans, own)
            return self.dice.choice(PAIRS)(left, right)
        if roll < 0.7 and free:
            axis = self.dice.choice(free)
            inside = dict(spans)
            inside[axis] = (0, self.lengths[axis])
            return Sum(axis, self.term(depth - 1, inside, None))
        if spans:
            return self.guard(depth, spans, own)
        return self.leaf(spans, own)

    def guard(self, depth, spans, own):
        axis = self.dice.choice(sorted(spans))
        begin, end = spans[axis]
        low = self.dice.randint(-1, 2)
        high = low + self.dice.randint(0, 2)
        inner, outer = dict(spans), dict(spans)
        inner[axis] = (max(begin, low), min(end, high))
        if low <= begin < high:
            outer[axis] = (high, end)
        elif low < end <= high:
            outer[axis] = (begin, low)
        return Guard(axis, low, high, self.term(depth - 1, inner, own), self.term(depth - 1, outer, own))

    def leaf(self, spans, own):
        roll = self.dice.random()
        if own is not None and own.axes and roll < 0.5:
            return self.own_read(spans, own)
        if roll < 0.8 and self.arrays:
            name = self.dice.choice(sorted(self.arrays))
            return Read(name, [self.index(axis, spans) for axis in self.arrays[name]])
        if roll < 0.9 and spans:
            return Place(self.dice.choice(sorted(spans)))
        return Number(self.dice.randint(-3, 12))

    def own_read(self, spans, own):
        """A read of a cell that is ahead at one axis, whatever the axes behind it do; a number where none is sure."""
        sure = [place for place, axis in enumerate(own.axes) if spans[axis][0] >= 1]
        if not sure:
            return Number(1)
        place = self.dice.choice(sure)
        behind = [self.index(axis, spans) for axis in own.axes[place + 1:]]
        return Read(own.name, [(axis, 0) for axis in own.axes[:place]] + [(own.axes[place], -1)] + behind)

    def index(self, axis, spans):
        length = self.lengths[axis]
        if any(begin >= end for begin, end in spans.values()):
            # Nothing comes here, so any index will do, the wrong ones best.
            return (self.dice.choice(sorted(spans)), self.dice.choice([-7, 7]))
        good = [(other, shift) for other, (begin, end) in sorted(spans.items()) for shift in range(-2, 3)
                if 0 <= begin + shift and end + shift <= length]
        shifted = [(other, shift) for other, shift in good if shift != 0]
        if shifted and self.dice.random() < 0.5:
            return self.dice.choice(shifted)
        return self.dice.choice(good + [("", self.dice.randrange(length))])

    def nest(self):
        self.number = 0
        body = self.body(0, [])
        return (self.number + self.dice.randint(0, 3), self.renumbered(body))

    def body(self, depth, rounds):
        """Loops and deeds; rounds are the numbers of loops round them."""
        nodes = []
        for again in range(self.dice.randint(1, 3)):
            if depth == 3 or self.dice.random() < 0.4:
                nodes.append(self.deed(rounds))
            else:
                nodes.append(self.loop(depth, rounds))
        return tuple(nodes)

    def deed(self, rounds):
        number = self.taken()
        named = [tuple(self.dice.sample(rounds, self.dice.randint(0, len(rounds)))) for again in range(2)]
        word = self.dice.choice(["set", "start", "add"])
        return ("deed", number, self.dice.randint(0, 9), word, named[0], named[1])

    def loop(self, depth, rounds):
        """A loop, perhaps cut once or twice: then as many counts as there are beginnings, and a loop within them."""
        cuts = [(self.dice.randint(1, 4), 0)]
        while len(cuts) < 3 and self.dice.random() < 0.4:
            size, width = cuts[0][0], self.dice.randint(1, 5)
            cuts = [(len(range(0, size, width)), 0), (size, width)] + cuts[1:]
        numbers = [self.taken() for cut in cuts]
        body = self.body(depth + 1, rounds + numbers)
        for (size, width), number, outer in reversed(list(zip(cuts, numbers, [-1] + numbers))):
            body = (("loop", number, size, width, outer, body),)
            if self.dice.random() < 0.2:
                body = (("loop", self.taken(), 2, 0, -1, body),)
        return body[0]

    def taken(self):
        self.number = self.number + 1
        return self.number - 1

    def renumbered(self, body):
        """The same nodes under other numbers, which are not in order."""
        others = list(range(self.number))
        self.dice.shuffle(others)
        return self.with_numbers(body, others)

    def with_numbers(self, body, others):
        nodes = []
        for node in body:
            if node[0] == "loop":
                outer = -1 if node[4] == -1 else others[node[4]]
                nodes.append(("loop", others[node[1]], node[2], node[3], outer, self.with_numbers(node[5], others)))
            else:
                named = [tuple(others[number] for number in numbers) for numbers in node[4:]]
                nodes.append(("deed", others[node[1]], node[2], node[3], named[0], named[1]))
        return tuple(nodes)


def cells(axes, lengths):
    return list(itertools.product(*[range(lengths[axis]) for axis in axes]))


def plain_worth(term, at, lengths, number_at):
    """The worth before the remainder; number_at(array, cell) tells what a read finds."""
    if isinstance(term, Number):
        return term.number
    if isinstance(term, Place):
        return at[term.axis]
    if isinstance(term, Read):
        cell = tuple(shift if axis == "" else at[axis] + shift for axis, shift in term.indexes)
        return number_at(term.array, cell)
    if isinstance(term, Sum):
        turns = [{**at, term.axis: number} for number in range(lengths[term.axis])]
        return sum(plain_worth(term.body, turn, lengths, number_at) for turn in turns)
    if isinstance(term, Guard):
        within = at[term.axis] in range(term.low, term.high)
        return plain_worth(term.inner if within else term.outer, at, lengths, number_at)
    left = plain_worth(term.left, at, lengths, number_at)
    right = plain_worth(term.right, at, lengths, number_at)
    return {Plus: left + right, Minus: left - right, Times: left * right}[type(term)]


def plain_meaning(program, tables):
    """By point 17, asked from the end: a cell of a let is looked for where a read asks for it."""
    lengths, arrays = lengths_of(program), arrays_of(program)
    lets = {let.name: let for let in program.lets}
    known = {}

    def number_at(array, cell):
        if (array, cell) not in known:
            if array in lets:
                at = dict(zip(arrays[array], cell))
                worth = plain_worth(lets[array].term, at, lengths, number_at)
            else:
                worth = tables[array][cells(arrays[array], lengths).index(cell)]
            known[(array, cell)] = worth % program.wheel
        return known[(array, cell)]

    return {name: [number_at(name, cell) for cell in cells(axes, lengths)] for name, axes in arrays.items()}


def woven(cloth, tables):
    """By points 18 and 20: line after line, cell by cell; a cell that was not told yet is not there to be read."""
    there = {name: dict(zip(cells(cloth.arrays[name], cloth.lengths), tables[name])) for name in cloth.tables}
    for line in cloth.lines:
        there[line.name] = {}
        for cell in cells(line.axes, cloth.lengths):
            total = 0
            for turn in cells(line.sums, cloth.lengths):
                at = dict(zip(line.axes + line.sums, cell + turn))
                total = total + plain_worth(line.term, at, {}, lambda array, found: there[array][found])
            there[line.name][cell] = total % cloth.wheel
    return {name: [number % cloth.wheel for number in told.values()] for name, told in there.items()}
