import unittest

from arrayloom.programs import Let
from arrayloom.programs import Program
from arrayloom.programs import arrays_of
from arrayloom.programs import lengths_of
from arrayloom.rims import look
from arrayloom.shapes import work_of
from arrayloom.terms import Guard
from arrayloom.terms import Number
from arrayloom.terms import Read
from arrayloom.terms import Sum


class HandedIn:
    """The lists that a program is made of, each still in the maker's hand."""

    def __init__(self):
        self.term = Guard("x", 1, 4, Read("b", [("x", -1)]), Sum("y", Read("g", [("x", 0), ("y", 0)])))
        self.let_axes = ["x"]
        self.let = Let("b", self.let_axes, self.term)
        self.axes = [("x", 4), ("y", 3)]
        self.table_axes = ["x", "y"]
        self.tables = [("g", self.table_axes), ("n", [])]
        self.lets = [self.let]
        self.outs = ["b", "n"]
        self.program = Program(10, self.axes, self.tables, self.lets, self.outs)


def fields_of(program):
    lets = [(let.name, let.axes, let.term) for let in program.lets]
    return (program.wheel, program.axes, program.tables, lets, program.outs)


class LetFields(unittest.TestCase):
    def test_fields_have_what_was_handed_in(self):
        term = Number(1)
        for let in (Let("b", ["x", "y"], term), Let(name="b", axes=["x", "y"], term=term)):
            self.assertEqual((let.name, let.axes), ("b", ["x", "y"]))
            self.assertIs(type(let.axes), list)
            self.assertIs(let.term, term)

    def test_without_axes(self):
        self.assertEqual(Let("b", [], Number(1)).axes, [])

    def test_names_are_not_looked_at(self):
        let = Let("No Name!", ["x", "x", "", "y"] * 3, Number(1))
        self.assertEqual((let.name, let.axes), ("No Name!", ["x", "x", "", "y"] * 3))

    def test_axes_that_are_changed_later(self):
        axes = ["x", "y"]
        let = Let("b", axes, Number(1))
        axes.append("z")
        self.assertEqual(let.axes, ["x", "y"])
        axes.clear()
        self.assertEqual(let.axes, ["x", "y"])

    def test_two_lets_of_one_list(self):
        axes = ["x"]
        first = Let("b", axes, Number(1))
        axes[0] = "y"
        second = Let("c", axes, Number(1))
        self.assertEqual((first.axes, second.axes), (["x"], ["y"]))


class ProgramFields(unittest.TestCase):
    def test_fields_have_what_was_handed_in(self):
        let = Let("b", ["x"], Number(1))
        axes, tables = [("x", 4), ("y", 3)], [("g", ["x", "y"]), ("n", [])]
        for program in (Program(10, axes, tables, [let], ["b", "g"]),
                        Program(wheel=10, axes=axes, tables=tables, lets=[let], outs=["b", "g"])):
            self.assertEqual(program.wheel, 10)
            self.assertEqual(program.axes, [("x", 4), ("y", 3)])
            self.assertEqual(program.tables, [("g", ["x", "y"]), ("n", [])])
            self.assertEqual(len(program.lets), 1)
            self.assertIs(program.lets[0], let)
            self.assertEqual(program.outs, ["b", "g"])

    def test_kinds(self):
        program = HandedIn().program
        for field in (program.axes, program.tables, program.lets, program.outs, program.tables[0][1]):
            self.assertIs(type(field), list)
        for member in program.axes + program.tables:
            self.assertIs(type(member), tuple)

    def test_lists_that_are_emptied_later(self):
        made, other = HandedIn(), HandedIn()
        wanted = (10, [("x", 4), ("y", 3)], [("g", ["x", "y"]), ("n", [])], [("b", ["x"], made.term)], ["b", "n"])
        for handed in (made.axes, made.table_axes, made.tables, made.let_axes, made.lets, made.outs):
            handed.clear()
            self.assertEqual(fields_of(made.program), wanted)
        self.assertEqual(lengths_of(made.program), lengths_of(other.program))
        self.assertEqual(arrays_of(made.program), arrays_of(other.program))
        self.assertEqual(work_of(made.program), work_of(other.program))
        self.assertIsNone(look(made.program))

    def test_lists_that_grow_later(self):
        made = HandedIn()
        wanted = (10, [("x", 4), ("y", 3)], [("g", ["x", "y"]), ("n", [])], [("b", ["x"], made.term)], ["b", "n"])
        made.axes.append(("x", 5))
        made.table_axes.append("stranger")
        made.tables.append(("x", ["y"]))
        made.let_axes.insert(0, "y")
        made.lets.append(Let("b", [], Number(1)))
        made.outs[0] = "stranger"
        self.assertEqual(fields_of(made.program), wanted)
        self.assertIsNone(look(made.program))

    def test_what_is_handed_in_stays_as_it_was(self):
        made = HandedIn()
        look(made.program)
        lengths_of(made.program)
        arrays_of(made.program)
        self.assertEqual(made.axes, [("x", 4), ("y", 3)])
        self.assertEqual(made.tables, [("g", ["x", "y"]), ("n", [])])
        self.assertIs(made.tables[0][1], made.table_axes)
        self.assertEqual(made.let_axes, ["x"])
        self.assertEqual(made.lets, [made.let])
        self.assertEqual(made.outs, ["b", "n"])

    def test_fields_stay_when_a_program_is_asked(self):
        made = HandedIn()
        kept = fields_of(HandedIn().program)
        look(made.program)
        work_of(made.program)
        fields = fields_of(made.program)
        self.assertEqual((fields[:3], fields[4]), (kept[:3], kept[4]))
        self.assertIs(made.program.lets[0], made.let)
        self.assertIs(made.let.term, made.term)

    def test_one_let_in_two_programs(self):
        let = Let("b", ["x"], Read("a", [("x", 0)]))
        first = Program(10, [("x", 2)], [("a", ["x"])], [let], ["b"])
        second = Program(10, [("x", 5)], [("a", ["x"])], [let], ["b"])
        self.assertEqual((work_of(first), work_of(second), work_of(first)), (4, 10, 4))
        self.assertIs(first.lets[0], second.lets[0])


class Lengths(unittest.TestCase):
    def test_by_the_names_of_axes(self):
        program = Program(10, [("y", 3), ("x", 60), ("k", 1)], [], [], [])
        self.assertEqual(lengths_of(program), {"y": 3, "x": 60, "k": 1})
        self.assertEqual(list(lengths_of(program)), ["y", "x", "k"])
        self.assertEqual(lengths_of(program=program), {"y": 3, "x": 60, "k": 1})

    def test_a_program_without_axes(self):
        self.assertEqual(lengths_of(Program(10, [], [("n", [])], [], ["n"])), {})

    def test_the_asker_changes_what_was_told(self):
        program = HandedIn().program
        told = lengths_of(program)
        told["x"] = 50
        told["z"] = 1
        self.assertEqual(lengths_of(program), {"x": 4, "y": 3})
        told.clear()
        self.assertEqual(lengths_of(program), {"x": 4, "y": 3})
        self.assertEqual(program.axes, [("x", 4), ("y", 3)])


class Arrays(unittest.TestCase):
    def program(self):
        lets = [Let("d", ["y"], Number(1)), Let("c", [], Number(1))]
        return Program(10, [("x", 2), ("y", 3)], [("t", ["y", "x"]), ("n", [])], lets, ["c"])

    def test_tables_then_lets_in_their_order(self):
        self.assertEqual(arrays_of(self.program()), {"t": ["y", "x"], "n": [], "d": ["y"], "c": []})
        self.assertEqual(list(arrays_of(self.program())), ["t", "n", "d", "c"])
        self.assertEqual(list(arrays_of(program=self.program())), ["t", "n", "d", "c"])

    def test_without_tables_and_without_lets(self):
        self.assertEqual(arrays_of(Program(10, [("x", 2)], [], [Let("b", ["x"], Number(1))], ["b"])), {"b": ["x"]})
        self.assertEqual(arrays_of(Program(10, [("x", 2)], [("a", ["x"])], [], ["a"])), {"a": ["x"]})
        self.assertEqual(arrays_of(Program(10, [], [], [], [])), {})

    def test_kinds(self):
        for axes in arrays_of(self.program()).values():
            self.assertIs(type(axes), list)

    def test_the_asker_changes_what_was_told(self):
        program = self.program()
        told = arrays_of(program)
        told["t"].clear()
        told["d"].append("x")
        told["c"] = ["x"]
        wanted = {"t": ["y", "x"], "n": [], "d": ["y"], "c": []}
        self.assertEqual(arrays_of(program), wanted)
        told.clear()
        self.assertEqual(arrays_of(program), wanted)
        self.assertEqual(program.tables, [("t", ["y", "x"]), ("n", [])])
        self.assertEqual([let.axes for let in program.lets], [["y"], []])


if __name__ == "__main__":
    unittest.main()
