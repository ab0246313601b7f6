import unittest

from arrayloom.lifting import cloth_of
from arrayloom.lines import Cloth
from arrayloom.lines import Line
from arrayloom.programs import Let
from arrayloom.programs import Program
from arrayloom.steps import first_order
from arrayloom.terms import Number
from arrayloom.terms import Plus
from arrayloom.terms import Read
from arrayloom.terms import Sum


class HandedIn:
    """The lists and dicts that a cloth is made of, each still in the maker's hand."""

    def __init__(self):
        self.term = Read("a", [("x", 0)])
        self.line_axes = ["x"]
        self.line_sums = ["k", "y"]
        self.line = Line("b", self.line_axes, self.line_sums, self.term)
        self.lengths = {"x": 2, "y": 1, "k": 3, "z": 9}
        self.table_axes = ["x"]
        self.arrays = {"a": self.table_axes, "n": [], "b": ["x"]}
        self.tables = ["a", "n"]
        self.lines = [self.line]
        self.outs = ["b", "a"]
        self.cloth = Cloth(10, self.lengths, self.arrays, self.tables, self.lines, self.outs)

    def all(self):
        return [self.line_axes, self.line_sums, self.lengths, self.table_axes, self.arrays["b"], self.arrays["n"],
                self.arrays, self.tables, self.lines, self.outs]


def line_fields(line):
    return (line.name, line.axes, line.sums, line.term)


def fields_of(cloth):
    lines = [line_fields(line) for line in cloth.lines]
    return (cloth.wheel, cloth.lengths, cloth.arrays, cloth.tables, lines, cloth.outs)


class LineFields(unittest.TestCase):
    def test_fields_have_what_was_handed_in(self):
        term = Number(1)
        for line in (Line("b", ["x", "y"], ["k"], term), Line(name="b", axes=["x", "y"], sums=["k"], term=term)):
            self.assertEqual((line.name, line.axes, line.sums), ("b", ["x", "y"], ["k"]))
            self.assertIs(type(line.axes), list)
            self.assertIs(type(line.sums), list)
            self.assertIs(line.term, term)

    def test_without_axes_and_without_sums(self):
        line = Line("s0", [], [], Number(1))
        self.assertEqual((line.name, line.axes, line.sums), ("s0", [], []))

    def test_lists_that_are_changed_later(self):
        axes, sums, term = ["x", "y"], ["k"], Number(1)
        line = Line("b", axes, sums, term)
        axes.append("z")
        sums.insert(0, "m")
        self.assertEqual(line_fields(line), ("b", ["x", "y"], ["k"], term))
        axes.clear()
        sums.clear()
        self.assertEqual(line_fields(line), ("b", ["x", "y"], ["k"], term))

    def test_one_list_for_both_and_for_two_lines(self):
        names = ["x"]
        first = Line("b", names, names, Number(1))
        names[0] = "y"
        second = Line("c", names, [], Number(1))
        self.assertEqual((first.axes, first.sums, second.axes), (["x"], ["x"], ["y"]))


class ClothFields(unittest.TestCase):
    def wanted(self, made):
        return (10, {"x": 2, "y": 1, "k": 3, "z": 9}, {"a": ["x"], "n": [], "b": ["x"]}, ["a", "n"],
                [("b", ["x"], ["k", "y"], made.term)], ["b", "a"])

    def test_fields_have_what_was_handed_in(self):
        made = HandedIn()
        self.assertEqual(fields_of(made.cloth), self.wanted(made))
        named = Cloth(wheel=10, lengths=made.lengths, arrays=made.arrays, tables=made.tables, lines=made.lines,
                      outs=made.outs)
        self.assertEqual(fields_of(named), self.wanted(made))
        self.assertIs(named.lines[0], made.line)

    def test_kinds(self):
        cloth = HandedIn().cloth
        for field in (cloth.lengths, cloth.arrays):
            self.assertIs(type(field), dict)
        for field in (cloth.tables, cloth.lines, cloth.outs, cloth.arrays["a"], cloth.arrays["n"]):
            self.assertIs(type(field), list)

    def test_the_order_of_arrays_is_kept(self):
        arrays = {"n": [], "a": ["x"], "c": ["x"], "b": []}
        cloth = Cloth(10, {"x": 2}, arrays, ["n", "a"], [], ["a"])
        self.assertEqual(list(cloth.arrays), ["n", "a", "c", "b"])

    def test_lists_and_dicts_that_are_emptied_later(self):
        made = HandedIn()
        steps = first_order(made.cloth)
        for handed in made.all():
            handed.clear()
            self.assertEqual(fields_of(made.cloth), self.wanted(made))
        self.assertEqual(first_order(made.cloth), steps)

    def test_lists_and_dicts_that_grow_later(self):
        made = HandedIn()
        steps = first_order(made.cloth)
        made.line_axes.append("y")
        made.line_sums[0] = "x"
        made.lengths["x"] = 50
        made.lengths["q"] = 1
        made.table_axes.append("y")
        made.arrays["n"].append("x")
        made.arrays["b"] = []
        made.arrays["q"] = []
        made.tables.insert(0, "q")
        made.lines.append(Line("q", [], [], Number(1)))
        made.outs[0] = "q"
        self.assertEqual(fields_of(made.cloth), self.wanted(made))
        self.assertEqual(first_order(made.cloth), steps)

    def test_what_is_handed_in_stays(self):
        made, other = HandedIn(), HandedIn()
        first_order(made.cloth)
        kept = other.all()
        for place, handed in enumerate(made.all()):
            if handed is not made.lines:
                self.assertEqual(handed, kept[place])
        self.assertEqual(made.lines, [made.line])
        self.assertIs(made.arrays["a"], made.table_axes)

    def test_two_cloths_of_one_dict(self):
        arrays = {"a": ["x"]}
        first = Cloth(10, {"x": 2}, arrays, ["a"], [], ["a"])
        arrays["a"][0] = "y"
        second = Cloth(10, {"y": 2}, arrays, ["a"], [], ["a"])
        self.assertEqual((first.arrays, second.arrays), ({"a": ["x"]}, {"a": ["y"]}))


class ClothsOfPrograms(unittest.TestCase):
    def test_all_fields(self):
        lets = [Let("d", ["y"], Plus(Sum("x", Read("t", [("y", 0), ("x", 0)])), Number(1))),
                Let("c", [], Number(1))]
        program = Program(12, [("x", 2), ("y", 3), ("z", 60)], [("t", ["y", "x"]), ("n", [])], lets, ["c", "t"])
        cloth = cloth_of(program)
        self.assertIs(type(cloth), Cloth)
        self.assertEqual(cloth.wheel, 12)
        self.assertEqual(cloth.lengths, {"x": 2, "y": 3, "z": 60})
        self.assertEqual(cloth.arrays, {"t": ["y", "x"], "n": [], "s0": ["y"], "d": ["y"], "c": []})
        self.assertEqual(list(cloth.arrays), ["t", "n", "s0", "d", "c"])
        self.assertEqual(cloth.tables, ["t", "n"])
        self.assertEqual([line.name for line in cloth.lines], ["s0", "d", "c"])
        self.assertEqual(cloth.outs, ["c", "t"])
        for line in cloth.lines:
            self.assertIs(type(line), Line)

    def test_by_the_name_of_its_argument(self):
        program = Program(10, [], [], [Let("b", [], Number(1))], ["b"])
        self.assertEqual(cloth_of(program=program).arrays, {"b": []})

    def test_lengths_of_axes_that_no_array_has(self):
        program = Program(10, [("x", 2), ("y", 3)], [("n", [])], [], ["n"])
        self.assertEqual(cloth_of(program).lengths, {"x": 2, "y": 3})

    def test_without_axes(self):
        cloth = cloth_of(Program(10, [], [("n", [])], [Let("b", [], Read("n", []))], ["b"]))
        self.assertEqual((cloth.lengths, cloth.arrays, cloth.tables), ({}, {"n": [], "b": []}, ["n"]))

    def test_without_tables(self):
        cloth = cloth_of(Program(10, [("x", 2)], [], [Let("b", ["x"], Number(1))], ["b"]))
        self.assertEqual((cloth.arrays, cloth.tables, cloth.outs), ({"b": ["x"]}, [], ["b"]))

    def test_without_lets(self):
        cloth = cloth_of(Program(10, [("x", 2)], [("n", []), ("a", ["x"])], [], ["a"]))
        self.assertEqual((cloth.arrays, cloth.tables, cloth.lines, cloth.outs),
                         ({"n": [], "a": ["x"]}, ["n", "a"], [], ["a"]))
        self.assertEqual(list(cloth.arrays), ["n", "a"])

    def test_tables_ahead_of_lines_whatever_their_names(self):
        program = Program(10, [("x", 2)], [("z", ["x"]), ("b", [])], [
            Let("y", [], Plus(Sum("x", Number(1)), Number(1))), Let("a", ["x"], Number(1))], ["z"])
        self.assertEqual(list(cloth_of(program).arrays), ["z", "b", "s0", "y", "a"])

    def test_what_the_program_was_made_of_is_changed_later(self):
        axes, table_axes, let_axes, outs = [("x", 2)], ["x"], ["x"], ["b"]
        lets = [Let("b", let_axes, Number(1))]
        tables = [("a", table_axes)]
        cloth = cloth_of(Program(10, axes, tables, lets, outs))
        for handed in (axes, table_axes, let_axes, outs, lets, tables):
            handed.clear()
        self.assertEqual((cloth.lengths, cloth.arrays, cloth.tables, cloth.outs),
                         ({"x": 2}, {"a": ["x"], "b": ["x"]}, ["a"], ["b"]))
        self.assertEqual(cloth.lines[0].axes, ["x"])

    def test_a_cloth_shares_no_list_with_its_program(self):
        program = Program(10, [("x", 2)], [("a", ["x"])], [Let("b", ["x"], Number(1))], ["b"])
        cloth = cloth_of(program)
        # Fields are for reading; here they are written, to see that nothing else hangs on them.
        for field in (cloth.arrays["a"], cloth.arrays["b"], cloth.lines[0].axes, cloth.tables, cloth.outs,
                      cloth.lines, cloth.lengths):
            field.clear()
        self.assertEqual((program.axes, program.tables, program.outs), ([("x", 2)], [("a", ["x"])], ["b"]))
        self.assertEqual((len(program.lets), program.lets[0].axes), (1, ["x"]))
        self.assertEqual(cloth_of(program).arrays, {"a": ["x"], "b": ["x"]})


if __name__ == "__main__":
    unittest.main()
