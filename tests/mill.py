"""Programs that the looker lets by, tables for them, cloths, nests and moves, all by a seed; and plain walks to hold
answers against.

The plain walks do not ask the terms themselves: they go over the fields alone.
"""

import itertools
import random

from arrayloom.lifting import cloth_of
from arrayloom.lines import Cloth
from arrayloom.lines import Line
from arrayloom.nests import first_nest
from arrayloom.programs import Let
from arrayloom.programs import Program
from arrayloom.programs import arrays_of
from arrayloom.programs import lengths_of
from arrayloom.terms import Guard
from arrayloom.terms import Minus
from arrayloom.terms import Number
from arrayloom.terms import Place
from arrayloom.terms import Plus
from arrayloom.terms import Read
from arrayloom.terms import Sum
from arrayloom.terms import Times

AXES = ("x", "y", "k", "m", "p")
PAIRS = (Plus, Minus, Times)


class Mill:
    """Reads are made so that the guards round them keep them within the rims; spans are what these guards leave."""

    def __init__(self, seed):
        self.dice = random.Random(seed)
        self.lengths = {}
        self.arrays = {}
        self.summing = True
        self.number = 0

    def program(self):
        self.lengths = {axis: self.dice.randint(1, 3) for axis in self.dice.sample(AXES, len(AXES))}
        tables = [(name, self.own_axes(3)) for name in "abc"[:self.dice.randint(0, 3)]]
        self.arrays = dict(tables)
        lets = [self.let(name) for name in "defg"[:self.dice.randint(1, 4)]]
        outs = self.dice.sample(sorted(self.arrays), self.dice.randint(1, len(self.arrays)))
        wheel = self.dice.choice([2, 7, 10, 10 ** 12])
        return Program(wheel, list(self.lengths.items()), tables, lets, outs)

    def tables(self, program):
        tables = {}
        for name, axes in program.tables:
            tables[name] = [self.dice.randint(-10 ** 15, 10 ** 15) for cell in cells(axes, lengths_of(program))]
        return tables

    def own_axes(self, most):
        return self.dice.sample(AXES, self.dice.randint(0, most))

    def let(self, name):
        axes = self.own_axes(2)
        sums = [axis for axis in self.own_axes(2) if axis not in axes] if self.dice.random() < 0.4 else []
        spans = {axis: (0, self.lengths[axis]) for axis in axes + sums}
        term = self.term(self.dice.randint(1, 5), spans, Let(name, axes, None))
        for axis in reversed(sums):
            term = Sum(axis, term)
        self.arrays[name] = axes
        return Let(name, axes, term)

    def cloth(self):
        """A cloth by hand: a line has more own axes than an array of a program may have, and sums at the top alone."""
        self.summing = False
        self.lengths = {axis: self.dice.choice([1, 2, 2, 3]) for axis in self.dice.sample(AXES, len(AXES))}
        self.arrays = {name: self.own_axes(3) for name in "abc"[:self.dice.randint(1, 3)]}
        tables = sorted(self.arrays)
        lines = [self.line(name) for name in "defg"[:self.dice.randint(0, 4)]]
        outs = self.dice.sample(sorted(self.arrays), self.dice.randint(1, len(self.arrays)))
        self.summing = True
        return Cloth(self.dice.choice([2, 7, 10 ** 12]), self.lengths, self.arrays, tables, lines, outs)

    def line(self, name):
        axes = self.own_axes(4)
        sums = [axis for axis in self.own_axes(3) if axis not in axes] if self.dice.random() < 0.5 else []
        spans = {axis: (0, self.lengths[axis]) for axis in axes + sums}
        term = self.term(self.dice.randint(0, 4), spans, Line(name, axes, sums, None))
        self.arrays[name] = axes
        return Line(name, axes, sums, term)

    def grid(self):
        """A cloth of lines over the same two axes, which read one another and themselves aslant."""
        self.lengths = {"x": self.dice.randint(2, 4), "y": self.dice.randint(2, 4), "k": 2}
        lines = []
        for name in "defg"[:self.dice.randint(1, 4)]:
            shifts = [(x, y) for x in (-1, 0, 1) for y in (-1, 0, 1)]
            ahead = [self.aslant(line.name, self.dice.choice(shifts)) for line in lines if self.dice.random() < 0.6]
            own = [self.aslant(name, self.dice.choice(shifts[:4])) for again in range(self.dice.randint(0, 2))]
            term = Place("x")
            for other in ahead + own:
                term = Plus(term, other)
            lines.append(Line(name, ["x", "y"], self.dice.choice([[], [], ["k"]]), term))
        names = [line.name for line in lines]
        return Cloth(10, self.lengths, {name: ["x", "y"] for name in names}, [], lines, names)

    def slanted(self):
        """A program whose cloth is such a grid."""
        cloth = self.grid()
        lets = [Let(line.name, line.axes, Sum("k", line.term) if line.sums else line.term) for line in cloth.lines]
        return Program(cloth.wheel, list(cloth.lengths.items()), [], lets, cloth.outs)

    def with_outs(self, cloth, most):
        """The same cloth with other outs, few of them, so that not all of its cells are wanted."""
        names = sorted(cloth.arrays)
        outs = self.dice.sample(names, self.dice.randint(1, min(most, len(names))))
        return Cloth(cloth.wheel, cloth.lengths, cloth.arrays, cloth.tables, cloth.lines, outs)

    def aslant(self, array, shifts):
        """A read of the cell so far off, with guards at the rims."""
        term = Read(array, list(zip(("x", "y"), shifts)))
        for axis, shift in term.indexes:
            term = Guard(axis, max(0, -shift), min(self.lengths[axis], self.lengths[axis] - shift), term, Number(0))
        return term

    def term(self, depth, spans, own):
        """own is the let or the line, for its name and axes, where it may read itself; else None."""
        free = [axis for axis in AXES if axis not in spans]
        roll = self.dice.random()
        if depth == 0 or roll < 0.1:
            return self.leaf(spans, own)
        if roll < 0.4:
            left = self.term(depth - 1, spans, own)
            right = left if self.dice.random() < 0.15 else self.term(depth - 1, spans, own)
            return self.dice.choice(PAIRS)(left, right)
        if roll < 0.7 and free and self.summing:
            axis = self.dice.choice(free)
            inside = dict(spans)
            inside[axis] = (0, self.lengths[axis])
            return Sum(axis, self.term(depth - 1, inside, None))
        if spans:
            return self.guard(depth, spans, own)
        return self.leaf(spans, own)

    def guard(self, depth, spans, own):
        axis = self.dice.choice(sorted(spans))
        begin, end = spans[axis]
        low = self.dice.randint(-1, 2)
        high = low + self.dice.randint(0, 2)
        inner, outer = dict(spans), dict(spans)
        inner[axis] = (max(begin, low), min(end, high))
        if low <= begin < high:
            outer[axis] = (high, end)
        elif low < end <= high:
            outer[axis] = (begin, low)
        return Guard(axis, low, high, self.term(depth - 1, inner, own), self.term(depth - 1, outer, own))

    def leaf(self, spans, own):
        roll = self.dice.random()
        if own is not None and own.axes and roll < 0.5:
            return self.own_read(spans, own)
        if roll < 0.8 and self.arrays:
            name = self.dice.choice(sorted(self.arrays))
            return Read(name, [self.index(axis, spans) for axis in self.arrays[name]])
        if roll < 0.9 and spans:
            return Place(self.dice.choice(sorted(spans)))
        return Number(self.dice.randint(-3, 12))

    def own_read(self, spans, own):
        """A read of a cell that is ahead at one axis, whatever the axes behind it do; a number where none is sure."""
        sure = [place for place, axis in enumerate(own.axes) if spans[axis][0] >= 1]
        if not sure:
            return Number(1)
        place = self.dice.choice(sure)
        behind = [self.index(axis, spans) for axis in own.axes[place + 1:]]
        return Read(own.name, [(axis, 0) for axis in own.axes[:place]] + [(own.axes[place], -1)] + behind)

    def index(self, axis, spans):
        length = self.lengths[axis]
        if any(begin >= end for begin, end in spans.values()):
            # Nothing comes here, so any index will do, the wrong ones best.
            return (self.dice.choice(sorted(spans)), self.dice.choice([-7, 7]))
        good = [(other, shift) for other, (begin, end) in sorted(spans.items()) for shift in range(-2, 3)
                if 0 <= begin + shift and end + shift <= length]
        shifted = [(other, shift) for other, shift in good if shift != 0]
        if shifted and self.dice.random() < 0.5:
            return self.dice.choice(shifted)
        return self.dice.choice(good + [("", self.dice.randrange(length))])

    def nest(self):
        self.number = 0
        body = self.body(0, [])
        return (self.number + self.dice.randint(0, 3), self.renumbered(body))

    def body(self, depth, rounds):
        """Loops and deeds; rounds are the numbers of loops round them."""
        nodes = []
        for again in range(self.dice.randint(1, 3)):
            if depth == 3 or self.dice.random() < 0.4:
                nodes.append(self.deed(rounds))
            else:
                nodes.append(self.loop(depth, rounds))
        return tuple(nodes)

    def deed(self, rounds):
        number = self.taken()
        named = [tuple(self.dice.sample(rounds, self.dice.randint(0, len(rounds)))) for again in range(2)]
        word = self.dice.choice(["set", "start", "add"])
        return ("deed", number, self.dice.randint(0, 9), word, named[0], named[1])

    def loop(self, depth, rounds):
        """A loop, perhaps cut once or twice: then as many counts as there are beginnings, and a loop within them."""
        cuts = [(self.dice.randint(1, 4), 0)]
        while len(cuts) < 3 and self.dice.random() < 0.4:
            size, width = cuts[0][0], self.dice.randint(1, 5)
            cuts = [(len(range(0, size, width)), 0), (size, width)] + cuts[1:]
        numbers = [self.taken() for cut in cuts]
        body = self.body(depth + 1, rounds + numbers)
        for (size, width), number, outer in reversed(list(zip(cuts, numbers, [-1] + numbers))):
            body = (("loop", number, size, width, outer, body),)
            if self.dice.random() < 0.2:
                body = (("loop", self.taken(), 2, 0, -1, body),)
        return body[0]

    def move(self, nest):
        """A move that can be made or not: mostly of a loop, at times of another number."""
        loops = [node for node in nodes_of(nest[1]) if node[0] == "loop"]
        if not loops or self.dice.random() < 0.1:
            number, size = self.dice.randint(-1, nest[0]), 1
        else:
            number, size = self.dice.choice(loops)[1:3]
        word = self.dice.choice(["swap", "cut", "join"])
        if word == "cut":
            return (word, number, self.dice.choice([-1, 0, 1, 2, 2, 3, size, size + 1, 10 ** 29]))
        return (word, number)

    def row(self, nest, most):
        """Moves that can all be made, one after the other, and the nest that comes of them."""
        moves = []
        for again in range(4 * most):
            move = self.move(nest)
            made = plain_moved(nest, move)
            if made is not None and len(moves) < most:
                moves.append(move)
                nest = made
        return moves, nest

    def orders(self, cloth):
        """Orders that are to be let by: the first one, one drawn by the needs, perhaps that of a nest behind moves."""
        moves, nest = self.row(first_nest(cloth), self.dice.randint(1, 6))
        orders = [plain_order(cloth), sorted_by_needs(cloth, self.dice), plain_steps(nest)]
        return orders if plainly_good(cloth, orders[2]) else orders[:2]

    def taken(self):
        self.number = self.number + 1
        return self.number - 1

    def renumbered(self, body):
        """The same nodes under other numbers, which are not in order."""
        others = list(range(self.number))
        self.dice.shuffle(others)
        return self.with_numbers(body, others)

    def with_numbers(self, body, others):
        nodes = []
        for node in body:
            if node[0] == "loop":
                outer = -1 if node[4] == -1 else others[node[4]]
                nodes.append(("loop", others[node[1]], node[2], node[3], outer, self.with_numbers(node[5], others)))
            else:
                named = [tuple(others[number] for number in numbers) for numbers in node[4:]]
                nodes.append(("deed", others[node[1]], node[2], node[3], named[0], named[1]))
        return tuple(nodes)


def cells(axes, lengths):
    return list(itertools.product(*[range(lengths[axis]) for axis in axes]))


def plain_worth(term, at, lengths, number_at):
    """The worth before the remainder; number_at(array, cell) tells what a read finds."""
    if isinstance(term, Number):
        return term.number
    if isinstance(term, Place):
        return at[term.axis]
    if isinstance(term, Read):
        cell = tuple(shift if axis == "" else at[axis] + shift for axis, shift in term.indexes)
        return number_at(term.array, cell)
    if isinstance(term, Sum):
        turns = [{**at, term.axis: number} for number in range(lengths[term.axis])]
        return sum(plain_worth(term.body, turn, lengths, number_at) for turn in turns)
    if isinstance(term, Guard):
        within = at[term.axis] in range(term.low, term.high)
        return plain_worth(term.inner if within else term.outer, at, lengths, number_at)
    left = plain_worth(term.left, at, lengths, number_at)
    right = plain_worth(term.right, at, lengths, number_at)
    return {Plus: left + right, Minus: left - right, Times: left * right}[type(term)]


def plain_meaning(program, tables):
    """By point 17, asked from the end: a cell of a let is looked for where a read asks for it."""
    lengths, arrays = lengths_of(program), arrays_of(program)
    lets = {let.name: let for let in program.lets}
    known = {}

    def number_at(array, cell):
        if (array, cell) not in known:
            if array in lets:
                at = dict(zip(arrays[array], cell))
                worth = plain_worth(lets[array].term, at, lengths, number_at)
            else:
                worth = tables[array][cells(arrays[array], lengths).index(cell)]
            known[(array, cell)] = worth % program.wheel
        return known[(array, cell)]

    return {name: [number_at(name, cell) for cell in cells(axes, lengths)] for name, axes in arrays.items()}


def woven(cloth, tables):
    """By points 18 and 20: line after line, cell by cell; a cell that was not told yet is not there to be read."""
    there = {name: dict(zip(cells(cloth.arrays[name], cloth.lengths), tables[name])) for name in cloth.tables}
    for line in cloth.lines:
        there[line.name] = {}
        for cell in cells(line.axes, cloth.lengths):
            total = 0
            for turn in cells(line.sums, cloth.lengths):
                at = dict(zip(line.axes + line.sums, cell + turn))
                total = total + plain_worth(line.term, at, {}, lambda array, found: there[array][found])
            there[line.name][cell] = total % cloth.wheel
    return {name: [number % cloth.wheel for number in told.values()] for name, told in there.items()}


def plain_steps(nest):
    """By point 22, the other way about: each deed's steps by themselves, then put in order.

    A step's key has, from the outside in, the place in the body and the count of the loop there.
    """
    keyed = []

    def gather(body, rounds):
        for place, node in enumerate(body):
            if node[0] == "loop":
                number, size, width, outer = node[1:5]
                longer = []
                for key, counts in rounds:
                    for count in range(size):
                        if outer == -1 or counts[outer] * width <= count < (counts[outer] + 1) * width:
                            longer.append((key + (place, count), {**counts, number: count}))
                gather(node[5], longer)
            else:
                for key, counts in rounds:
                    cell, turn = [tuple(counts[number] for number in numbers) for numbers in node[4:]]
                    keyed.append((key + (place,), (node[2], node[3], cell, turn)))

    gather(nest[1], [((), {})])
    return [step for key, step in sorted(keyed, key=lambda pair: pair[0])]


def nodes_of(body):
    """All nodes, in the order in which they are written out."""
    nodes = []
    for node in body:
        nodes.append(node)
        if node[0] == "loop":
            nodes.extend(nodes_of(node[5]))
    return nodes


def plain_moved(nest, move):
    """By point 24, over one dict of all nodes by their numbers; None where the move can not be made."""
    fresh, nodes = nest[0], {}
    top = spread(nest[1], nodes)
    word, number = move[:2]
    if "body" not in nodes.get(number, {}):
        return None
    loop = nodes[number]
    beside = [body for body in [top] + [node.get("body", []) for node in nodes.values()] if number in body][0]
    place = beside.index(number)
    if word == "swap":
        other = nodes[loop["body"][0]]
        if len(loop["body"]) != 1 or other.get("outer", number) == number:
            return None
        beside[place] = loop["body"][0]
        loop["body"], other["body"] = other["body"], [number]
    if word == "cut":
        if loop["outer"] != -1 or move[2] < 1:
            return None
        name_instead(nodes, number, fresh)
        nodes[fresh] = {"size": loop["size"], "width": move[2], "outer": number, "body": loop["body"]}
        loop["size"], loop["body"] = len(range(0, loop["size"], move[2])), [fresh]
        fresh = fresh + 1
    if word == "join":
        other = nodes[(beside + beside)[place + 1]]
        if place + 1 == len(beside) or any(loop[field] != other.get(field) for field in ("size", "width", "outer")):
            return None
        name_instead(nodes, beside.pop(place + 1), number)
        loop["body"].extend(other["body"])
    return (fresh, put_together(top, nodes))


def spread(body, nodes):
    for node in body:
        if node[0] == "loop":
            inside = spread(node[5], nodes)
            nodes[node[1]] = {"size": node[2], "width": node[3], "outer": node[4], "body": inside}
        else:
            nodes[node[1]] = {"line": node[2], "word": node[3], "cell": node[4], "turn": node[5]}
    return [node[1] for node in body]


def name_instead(nodes, old, new):
    for node in nodes.values():
        if node.get("outer") == old:
            node["outer"] = new
        for field in ("cell", "turn"):
            if field in node:
                node[field] = tuple(new if number == old else number for number in node[field])


def put_together(numbers, nodes):
    body = []
    for number in numbers:
        node = nodes[number]
        if "body" in node:
            inside = put_together(node["body"], nodes)
            body.append(("loop", number, node["size"], node["width"], node["outer"], inside))
        else:
            body.append(("deed", number, node["line"], node["word"], node["cell"], node["turn"]))
    return tuple(body)


def plain_order(cloth):
    """By point 21."""
    steps = []
    for number, line in enumerate(cloth.lines):
        for cell in cells(line.axes, cloth.lengths):
            adds = [(number, "add", cell, turn) for turn in cells(line.sums, cloth.lengths)]
            steps.extend([(number, "start", cell, ())] + adds if line.sums else [(number, "set", cell, ())])
    return steps


def plain_reads(cloth, step):
    """By point 26: what the worth of the line's term asks for."""
    line, asked = cloth.lines[step[0]], []

    def number_at(array, cell):
        asked.append((array, cell))
        return 0

    if step[1] != "start":
        plain_worth(line.term, dict(zip(line.axes + line.sums, step[2] + step[3])), {}, number_at)
    return asked


def plain_needs(cloth):
    """By point 27, each two steps held against each other."""
    steps = plain_order(cloth)
    reads = [set(plain_reads(cloth, step)) for step in steps]
    needs = []
    for i, j in itertools.combinations(range(len(steps)), 2):
        needed, later = steps[i], steps[j]
        begun = needed[:3] == (later[0], "start", later[2]) and later[1] == "add"
        if begun or (cloth.lines[needed[0]].name, needed[2]) in reads[j]:
            needs.append((i, j))
    return needs


def sorted_by_needs(cloth, dice):
    """An order that is to be let by: each time one of the steps is drawn of which all that they need has come."""
    order, needs = plain_order(cloth), plain_needs(cloth)
    steps, come, left = [], set(), set(range(len(order)))
    while left:
        waiting = {later for needed, later in needs if needed not in come}
        drawn = dice.choice(sorted(left - waiting))
        left.remove(drawn)
        come.add(drawn)
        steps.append(order[drawn])
    return steps


def plainly_good(cloth, steps):
    """By point 28."""
    order, places = plain_order(cloth), {step: place for place, step in enumerate(steps)}
    return all(places[order[i]] < places[order[j]] for i, j in plain_needs(cloth))


def small_cloths(seed, turns, most):
    """Pairs of a mill and one of its cloths, of at most so many steps, for which some more is to be made by it."""
    mill = Mill(seed)
    for again in range(turns):
        for cloth in (cloth_of(mill.program()), mill.cloth(), mill.grid()):
            if len(plain_order(cloth)) <= most:
                yield mill, cloth
                yield mill, mill.with_outs(cloth, 2)


def plain_written(cloth, step):
    """By point 26."""
    return (cloth.lines[step[0]].name, step[2])


def plain_wanted(cloth):
    """By point 29: from the cells of the outs on, over all steps, until nothing more comes to it."""
    wanted = {(array, cell) for array in cloth.outs for cell in cells(cloth.arrays[array], cloth.lengths)}
    steps = plain_order(cloth)
    reads = [plain_reads(cloth, step) for step in steps]
    ahead = 0
    while len(wanted) > ahead:
        ahead = len(wanted)
        for step, read in zip(steps, reads):
            if plain_written(cloth, step) in wanted:
                wanted.update(read)
    return {array: [cell for cell in cells(axes, cloth.lengths) if (array, cell) in wanted]
            for array, axes in cloth.arrays.items()}


def plain_lives(cloth, steps):
    """By point 30, cell by cell over the whole order."""
    wanted = plain_wanted(cloth)
    written = [plain_written(cloth, step) for step in steps]
    reads = [plain_reads(cloth, step) if written[place][1] in wanted[written[place][0]] else []
             for place, step in enumerate(steps)]

    def life(array, cell):
        first = 0 if array in cloth.tables else written.index((array, cell)) + 1
        if array in cloth.outs:
            return (first, len(steps))
        return (first, max(place for place, read in enumerate(reads) if (array, cell) in read))

    return {array: {cell: life(array, cell) for cell in told} for array, told in wanted.items()}


def plain_crowd(cloth, steps):
    """By point 31, gap by gap."""
    lives = plain_lives(cloth, steps)
    most = (0, [])
    for gap in range(len(steps) + 1):
        live = [(array, cell) for array in cloth.arrays for cell in cells(cloth.arrays[array], cloth.lengths)
                if cell in lives[array] and gap in range(lives[array][cell][0], lives[array][cell][1] + 1)]
        if len(live) > len(most[1]):
            most = (gap, live)
    return most


def plain_homes(cloth, steps):
    """By point 32: at each step all boxes are looked through again."""
    lives = plain_lives(cloth, steps)
    homes = {array: {} for array in cloth.arrays}
    for array in cloth.tables:
        for cell in lives[array]:
            homes[array][cell] = sum(len(there) for there in homes.values())
    for place, step in enumerate(steps):
        array, cell = plain_written(cloth, step)
        if lives[array].get(cell, (0, 0))[0] == place + 1:
            held = [home for other, there in homes.items() for kept, home in there.items()
                    if lives[other][kept][1] > place]
            homes[array][cell] = min(box for box in range(len(held) + 1) if box not in held)
    return (len(plain_crowd(cloth, steps)[1]), homes)


def plain_trace(cloth, steps, homes):
    """By point 35."""
    trace = []
    for step in steps:
        array, cell = plain_written(cloth, step)
        if cell in homes[array]:
            trace.extend(("read", homes[other][there]) for other, there in plain_reads(cloth, step))
            own = homes[array][cell]
            trace.extend([("read", own), ("write", own)] if step[1] == "add" else [("write", own)])
    return trace


def parts_in(term):
    """How many parts a term has, each place by itself."""
    within = [getattr(term, field) for field in ("left", "right", "body", "inner", "outer") if hasattr(term, field)]
    return 1 + sum(parts_in(inner) for inner in within)
