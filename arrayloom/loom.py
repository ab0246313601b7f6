"""The loom: a program that is read and looked at once, its moves, and its runs."""

from arrayloom.errors import NoMove
from arrayloom.homes import homes_of
from arrayloom.judging import judge
from arrayloom.lifting import cloth_of
from arrayloom.machine import go
from arrayloom.meaning import look_tables
from arrayloom.moves import moved
from arrayloom.nests import first_nest
from arrayloom.plans import move_text
from arrayloom.plans import read_move
from arrayloom.programs import cells_along
from arrayloom.rims import look
from arrayloom.steps import steps_of
from arrayloom.tape import tape_of
from arrayloom.texts import read_program

# Each tape of a program that is let by ends far ahead of this.
MOST_DOINGS = 10000000


class Loom:
    def __init__(self, text):
        program = read_program(text)
        look(program)
        self.program = program
        self.cloth = cloth_of(program)
        # The first nest, and behind it what came of each move: so the last move is taken back without any reckoning.
        self.nests = [first_nest(self.cloth)]
        self.made = []

    def move(self, row):
        made = read_move(row)
        nest = moved(self.nests[-1], made)
        self.nests.append(nest)
        self.made.append(made)

    def back(self):
        if len(self.made) == 0:
            raise NoMove(0)
        self.nests.pop()
        self.made.pop()

    def moves(self):
        return [move_text(made) for made in self.made]

    def order(self):
        return steps_of(self.nests[-1])

    def room(self):
        room, homes = homes_of(self.cloth, self.judged_order())
        return room

    def run(self, tables):
        steps = self.judged_order()
        look_tables(self.program, tables)
        room, homes = homes_of(self.cloth, steps)
        tape = tape_of(self.cloth, self.nests[-1])
        boxes = filled_boxes(self.cloth, tables, room, homes)
        left, trace = go(tape, self.cloth.wheel, homes, boxes, MOST_DOINGS)
        return numbers_of_outs(self.cloth, homes, left)

    def judged_order(self):
        steps = self.order()
        judge(self.cloth, steps)
        return steps


# Cells of tables that are not wanted have no box.
def filled_boxes(cloth, tables, room, homes):
    boxes = [None] * room
    for name in cloth.tables:
        for cell, number in zip(cells_of_array(cloth, name), tables[name]):
            if cell in homes[name]:
                boxes[homes[name][cell]] = number % cloth.wheel
    return boxes


def numbers_of_outs(cloth, homes, boxes):
    numbers = {}
    for name in cloth.outs:
        numbers[name] = [boxes[homes[name][cell]] for cell in cells_of_array(cloth, name)]
    return numbers


def cells_of_array(cloth, name):
    return cells_along(cloth.arrays[name], cloth.lengths)
