"""Many programs, by a seed: the looker's answers against what point 6 tells, and against a plain walk of the words."""

import itertools
import random
import unittest

from arrayloom.programs import Let
from arrayloom.programs import Program
from arrayloom.programs import arrays_of
from arrayloom.programs import lengths_of
from arrayloom.rims import look
from arrayloom.shapes import look_names
from arrayloom.shapes import look_terms
from arrayloom.shapes import work_of
from arrayloom.terms import Guard
from arrayloom.terms import Minus
from arrayloom.terms import Number
from arrayloom.terms import Place
from arrayloom.terms import Plus
from arrayloom.terms import Read
from arrayloom.terms import Sum
from arrayloom.terms import Times
from tests.samples import refusal_of

AXES = ["x", "y", "k", "m"]
PROGRAMS = 1500


def some_axes(dice, most):
    return dice.sample(AXES, dice.randint(0, most))


def some_index(dice, bound):
    if bound and dice.random() < 0.85:
        return (dice.choice(bound), dice.choice([0, 0, 0, 0, -1, 1]))
    return ("", dice.choice([0, 0, 1]))


def some_read(dice, bound, arrays):
    name = dice.choice(sorted(arrays) + sorted(arrays)[:1] + (["q"] if dice.random() < 0.02 else []))
    return Read(name, [some_index(dice, bound) for axis in arrays.get(name, [])])


def some_term(dice, depth, bound, arrays):
    free = [axis for axis in AXES if axis not in bound]
    roll = dice.random()
    if depth == 0 or roll < 0.25:
        if roll < 0.06 and bound:
            return Place(dice.choice(bound if dice.random() < 0.95 else AXES))
        return some_read(dice, bound, arrays) if arrays and roll < 0.9 else Number(dice.randint(-3, 3))
    if roll < 0.5:
        kind = dice.choice([Plus, Minus, Times])
        return kind(some_term(dice, depth - 1, bound, arrays), some_term(dice, depth - 1, bound, arrays))
    if roll < 0.65 and free:
        axis = dice.choice(free if dice.random() < 0.97 else AXES)
        return Sum(axis, some_term(dice, depth - 1, bound + [axis], arrays))
    axis = dice.choice(bound or AXES) if dice.random() < 0.97 else dice.choice(AXES)
    low = dice.randint(-1, 2)
    return Guard(axis, low, low + dice.randint(0, 3), some_term(dice, depth - 1, bound, arrays),
                 some_term(dice, depth - 1, bound, arrays))


def some_program(dice):
    axes = [(name, dice.randint(1, 3)) for name in AXES]
    tables = [(name, some_axes(dice, 2)) for name in "ac"[:dice.randint(0, 2)]]
    arrays = dict(tables)
    lets = []
    for name in "def"[:dice.randint(1, 3)]:
        own = some_axes(dice, 2)
        arrays[name] = own
        lets.append(Let(name, own, some_term(dice, dice.randint(0, 4), list(own), arrays)))
    return Program(10, axes, tables, lets, ["d"])


def guarded_reads(term, sums, holds):
    """Each read in the order of words, with the axes of the sums round it and what must hold of its spots."""
    if isinstance(term, Read):
        return [(term, sums, holds)]
    if isinstance(term, (Plus, Minus, Times)):
        return guarded_reads(term.left, sums, holds) + guarded_reads(term.right, sums, holds)
    if isinstance(term, Sum):
        return guarded_reads(term.body, sums + (term.axis,), holds)
    if isinstance(term, Guard):
        numbers = range(term.low, term.high)
        inner = holds + ((lambda at: at[term.axis] in numbers),)
        outer = holds + ((lambda at: at[term.axis] not in numbers),)
        return guarded_reads(term.inner, sums, inner) + guarded_reads(term.outer, sums, outer)
    return []


def told_cells(program, axes):
    return list(itertools.product(*[range(lengths_of(program)[axis]) for axis in axes]))


def due(program):
    """What point 15 refuses, by a plain walk; or None."""
    arrays = {name: told_cells(program, axes) for name, axes in arrays_of(program).items()}
    for let in program.lets:
        for read, sums, holds in guarded_reads(let.term, (), ()):
            leads = []
            for spot in told_cells(program, let.axes + list(sums)):
                at = dict(zip(let.axes + list(sums), spot))
                if all(hold(at) for hold in holds):
                    leads.append((spot, tuple((at[axis] if axis else 0) + shift for axis, shift in read.indexes)))
            for spot, cell in leads:
                if cell not in arrays[read.array]:
                    return ("BeyondRim", let.name, read.array, spot, cell)
            for spot, cell in leads:
                told = spot[:len(let.axes)]
                if read.array == let.name and arrays[let.name].index(cell) >= arrays[let.name].index(told):
                    return ("NotYet", let.name, read.array, spot, cell)
    return None


def reads_well(program):
    """Whether every cell looks only at cells of tables, of lets ahead, and at cells ahead of itself (6)."""
    there = {name: told_cells(program, axes) for name, axes in program.tables}
    for let in program.lets:
        there[let.name] = []
        for cell in told_cells(program, let.axes):
            for array, looked_at in let.term.reads(dict(zip(let.axes, cell)), lengths_of(program)):
                if looked_at not in there[array]:
                    return False
            there[let.name].append(cell)
    return True


def work_by_hand(term, turns, lengths):
    if isinstance(term, Sum):
        return turns + work_by_hand(term.body, turns * lengths[term.axis], lengths)
    within = []
    if isinstance(term, (Plus, Minus, Times)):
        within = [term.left, term.right]
    if isinstance(term, Guard):
        within = [term.inner, term.outer]
    return turns + sum(work_by_hand(part, turns, lengths) for part in within)


class ManyPrograms(unittest.TestCase):
    def test_the_looker_against_a_plain_walk(self):
        dice = random.Random(5)
        answers = {}
        for again in range(PROGRAMS):
            program = some_program(dice)
            self.assertEqual(refusal_of(look_names, program), None)
            shape = refusal_of(look_terms, program)
            answer = refusal_of(look, program)
            kind = answer[0] if answer else "let by"
            answers[kind] = answers.get(kind, 0) + 1
            if shape is not None:
                self.assertEqual(answer, shape)
                continue
            self.assertEqual(answer, due(program))
            self.assertEqual(answer is None, reads_well(program))
        # A look at the mill itself: each answer comes often enough to say something.
        for kind in ("let by", "BeyondRim", "NotYet", "NoShape", "NoName"):
            self.assertGreater(answers.get(kind, 0), 10, answers)

    def test_the_work_against_a_plain_walk(self):
        dice = random.Random(6)
        for again in range(300):
            program = some_program(dice)
            if refusal_of(look_terms, program) is None:
                lengths = lengths_of(program)
                work = sum(len(told_cells(program, axes)) for name, axes in program.tables)
                for let in program.lets:
                    work = work + work_by_hand(let.term, len(told_cells(program, let.axes)), lengths)
                self.assertEqual(work_of(program), work)


if __name__ == "__main__":
    unittest.main()
