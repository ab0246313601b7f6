"""The meaning of a program: the numbers of all its cells, told cell by cell."""

from arrayloom.errors import NoTable
from arrayloom.programs import cells_along
from arrayloom.programs import lengths_of
from arrayloom.programs import table_names
from arrayloom.terms import World


# A cell may look at all cells told ahead of it, so the numbers come in one by one; a world made anew for each cell
# would copy all of them each time.
class GrowingWorld(World):
    def put(self, array, cell, number):
        if array not in self.numbers:
            self.numbers[array] = {}
        self.numbers[array][cell] = number


def meaning(program, tables):
    look_tables(program, tables)
    world = GrowingWorld(program.wheel, lengths_of(program), {})
    put_tables(program, tables, world)
    for let in program.lets:
        put_let(let, world)
    return rows_of(world)


def look_tables(program, tables):
    if set(tables) != set(table_names(program)):
        raise NoTable("the tables have other names than those of the program")
    lengths = lengths_of(program)
    for name, axes in program.tables:
        if len(tables[name]) != len(cells_along(axes, lengths)):
            raise NoTable(f"the table {name!r} has another number of cells")


def put_tables(program, tables, world):
    for name, axes in program.tables:
        for cell, number in zip(cells_along(axes, world.lengths), tables[name]):
            world.put(name, cell, number % world.wheel)


def put_let(let, world):
    for cell in cells_along(let.axes, world.lengths):
        at = dict(zip(let.axes, cell))
        world.put(let.name, cell, let.term.worth(at, world))


# The cells were put in row order, and a dict keeps the order in which they came.
def rows_of(world):
    rows = {}
    for array, numbers in world.numbers.items():
        rows[array] = list(numbers.values())
    return rows
