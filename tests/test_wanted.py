import unittest

from arrayloom.lifting import cloth_of
from arrayloom.lines import Cloth
from arrayloom.lines import Line
from arrayloom.programs import Let
from arrayloom.programs import Program
from arrayloom.terms import Guard
from arrayloom.terms import Number
from arrayloom.terms import Place
from arrayloom.terms import Plus
from arrayloom.terms import Read
from arrayloom.terms import Sum
from arrayloom.terms import Times
from arrayloom.wanted import wanted_of
from tests.mill import Mill
from tests.mill import cells
from tests.mill import plain_order
from tests.mill import plain_wanted
from tests.samples import LENGTHS
from tests.samples import cloth_with

ONE = Number(1)
TABLES = {"a": ["x"], "g": ["x", "y"], "n": []}


def read(array, *indexes):
    return Read(array, list(indexes))


class Wanted(unittest.TestCase):
    def check(self, cloth, wanted):
        for again in range(2):
            told = wanted_of(cloth)
            self.assertEqual(told, wanted)
            self.assertEqual(list(told), list(cloth.arrays))
        self.assertEqual(wanted_of(cloth=cloth), wanted)
        self.assertEqual(plain_wanted(cloth), wanted)


class Outs(Wanted):
    def test_an_out_that_is_a_line(self):
        self.check(cloth_with(Line("b", ["y"], [], ONE)), {"b": [(0,), (1,), (2,)]})

    def test_an_out_that_is_a_table(self):
        cloth = cloth_with(Line("b", ["x"], [], read("a", ("x", 0))), tables=TABLES, outs=["g"])
        self.check(cloth, {"a": [], "g": [(0, 0), (0, 1), (0, 2), (1, 0), (1, 1), (1, 2)], "n": [], "b": []})
        cloth = cloth_with(Line("b", ["x"], [], read("a", ("x", 0))), tables=TABLES, outs=["n", "a"])
        self.check(cloth, {"a": [(0,), (1,)], "g": [], "n": [()], "b": []})

    def test_a_line_and_a_table(self):
        cloth = cloth_with(Line("b", ["x"], [], read("n")), Line("c", [], [], ONE), tables=TABLES, outs=["b", "a"])
        self.check(cloth, {"a": [(0,), (1,)], "g": [], "n": [()], "b": [(0,), (1,)], "c": []})

    def test_a_table_that_is_an_out_and_is_read(self):
        cloth = cloth_with(Line("b", [], [], read("a", ("", 1))), tables=TABLES, outs=["b", "a"])
        self.check(cloth, {"a": [(0,), (1,)], "g": [], "n": [], "b": [()]})

    def test_without_axes(self):
        self.check(cloth_with(Line("b", [], [], read("n")), tables={"n": []}), {"n": [()], "b": [()]})

    def test_a_cloth_without_lines(self):
        self.check(Cloth(10, {"x": 2}, {"a": ["x"], "c": []}, ["a", "c"], [], ["a"]), {"a": [(0,), (1,)], "c": []})

    def test_outs_in_another_order_than_the_arrays(self):
        lines = [Line("z", ["m"], [], ONE), Line("c", [], [], ONE), Line("q", [], [], ONE), Line("b", [], [], ONE)]
        cloth = cloth_with(*lines, tables={"t": [], "a": []}, outs=["b", "a", "z"])
        self.check(cloth, {"t": [], "a": [()], "z": [(0,)], "c": [], "q": [], "b": [()]})

    def test_more_tables_lines_and_outs_than_a_program_has(self):
        tables = {f"t{number}": ["x"] for number in range(20)}
        lines = [Line(f"l{number}", [], [], read(f"t{number}", ("", number % 2))) for number in range(20)]
        outs = [f"l{number}" for number in range(18)]
        wanted = {f"t{number}": [(number % 2,)] if number < 18 else [] for number in range(20)}
        wanted.update({f"l{number}": [()] if number < 18 else [] for number in range(20)})
        self.check(cloth_with(*lines, tables=tables, outs=outs), wanted)


class Reads(Wanted):
    def test_cells_that_a_wanted_cell_reads(self):
        lines = [Line("b", ["y"], [], ONE), Line("c", ["x"], [], read("b", ("x", 1)))]
        self.check(cloth_with(*lines, outs=["c"]), {"b": [(1,), (2,)], "c": [(0,), (1,)]})

    def test_a_cell_that_only_an_unwanted_step_reads(self):
        lines = [Line("b", ["x"], [], read("a", ("x", 0))), Line("c", [], [], read("b", ("", 1)))]
        self.check(cloth_with(*lines, tables=TABLES, outs=["c"]),
                   {"a": [(1,)], "g": [], "n": [], "b": [(1,)], "c": [()]})

    def test_a_line_that_nothing_wanted_reads(self):
        lines = [Line("b", ["x"], [], read("a", ("x", 0))), Line("c", ["x"], [], read("b", ("x", 0))),
                 Line("d", [], [], read("n"))]
        self.check(cloth_with(*lines, tables=TABLES, outs=["d"]),
                   {"a": [], "g": [], "n": [()], "b": [], "c": [], "d": [()]})

    def test_a_line_behind_the_out_that_reads_it(self):
        lines = [Line("b", ["x"], [], ONE), Line("c", ["x"], [], Plus(read("b", ("x", 0)), read("a", ("x", 0))))]
        self.check(cloth_with(*lines, tables={"a": ["x"]}, outs=["b"]), {"a": [], "b": [(0,), (1,)], "c": []})

    def test_a_chain_over_several_lines(self):
        lines = [Line("b", ["y"], [], read("g", ("", 1), ("y", 0))),
                 Line("c", ["y"], [], Guard("y", 1, 3, read("b", ("y", -1)), ONE)),
                 Line("d", ["y"], [], Guard("y", 1, 3, read("c", ("y", -1)), ONE)),
                 Line("e", [], [], read("d", ("", 2)))]
        self.check(cloth_with(*lines, tables={"g": ["x", "y"]}, outs=["e"]),
                   {"g": [(1, 0)], "b": [(0,)], "c": [(1,)], "d": [(2,)], "e": [()]})

    def test_a_chain_that_ends_at_a_number(self):
        lines = [Line("b", ["y"], [], ONE), Line("c", ["y"], [], Guard("y", 1, 3, read("b", ("y", -1)), ONE)),
                 Line("e", [], [], read("c", ("", 0)))]
        self.check(cloth_with(*lines, outs=["e"]), {"b": [], "c": [(0,)], "e": [()]})

    def test_a_line_that_reads_itself(self):
        running = Guard("y", 1, 3, Plus(read("b", ("y", -1)), read("a", ("y", -1))), ONE)
        lines = [Line("b", ["y"], [], running), Line("c", [], [], read("b", ("", 1)))]
        self.check(cloth_with(*lines, tables={"a": ["y"]}, outs=["c"]), {"a": [(0,)], "b": [(0,), (1,)], "c": [()]})
        two_back = Guard("y", 2, 3, read("b", ("y", -2)), ONE)
        lines = [Line("b", ["y"], [], two_back), Line("c", [], [], read("b", ("", 2)))]
        self.check(cloth_with(*lines, outs=["c"]), {"b": [(0,), (2,)], "c": [()]})

    def test_a_line_with_sums(self):
        lines = [Line("b", ["x"], ["y"], read("g", ("x", 0), ("y", 0))), Line("c", [], [], read("b", ("", 1)))]
        self.check(cloth_with(*lines, tables={"g": ["x", "y"]}, outs=["c"]),
                   {"g": [(1, 0), (1, 1), (1, 2)], "b": [(1,)], "c": [()]})

    def test_of_a_line_with_sums_each_add_reads_by_its_turn(self):
        lines = [Line("b", [], ["y"], Guard("y", 1, 2, read("a", ("y", 0)), read("n")))]
        self.check(cloth_with(*lines, tables={"a": ["y"], "n": []}), {"a": [(1,)], "n": [()], "b": [()]})

    def test_a_line_with_sums_that_reads_itself(self):
        lines = [Line("b", ["y"], ["k"], Guard("k", 1, 2, Guard("y", 1, 3, read("b", ("y", -1)), ONE), ONE)),
                 Line("c", [], [], read("b", ("", 1)))]
        self.check(cloth_with(*lines, outs=["c"]), {"b": [(0,), (1,)], "c": [()]})

    def test_reads_within_guards(self):
        term = Guard("y", 1, 2, read("a", ("y", 0)), read("n"))
        self.check(cloth_with(Line("b", ["y"], [], term), tables={"a": ["y"], "n": []}),
                   {"a": [(1,)], "n": [()], "b": [(0,), (1,), (2,)]})
        # Nothing leads to the outer one, which would read beyond the rim.
        term = Guard("y", 0, 3, read("a", ("y", 0)), read("n", ("", 7)))
        self.check(cloth_with(Line("b", ["y"], [], term), tables={"a": ["y"], "n": []}),
                   {"a": [(0,), (1,), (2,)], "n": [], "b": [(0,), (1,), (2,)]})

    def test_reads_within_guards_within_guards(self):
        term = Guard("x", 1, 2, Guard("y", 2, 3, read("g", ("x", 0), ("y", 0)), read("n")), read("a", ("x", 0)))
        lines = [Line("b", ["x", "y"], [], term), Line("c", ["x"], [], read("b", ("", 1), ("x", 1)))]
        self.check(cloth_with(*lines, tables=TABLES, outs=["c"]),
                   {"a": [], "g": [(1, 2)], "n": [()], "b": [(1, 1), (1, 2)], "c": [(0,), (1,)]})

    def test_in_row_order_and_each_once(self):
        back = Guard("y", 0, 1, read("g", ("", 1), ("", 2)), Guard("y", 1, 2, read("g", ("", 1), ("", 0)),
                                                                  read("g", ("", 0), ("", 1))))
        term = Plus(back, Times(read("g", ("", 1), ("", 0)), back))
        self.check(cloth_with(Line("b", ["y"], [], term), tables={"g": ["x", "y"]}),
                   {"g": [(0, 1), (1, 0), (1, 2)], "b": [(0,), (1,), (2,)]})

    def test_numbers_above_nine_in_row_order(self):
        # By their figures 10 would come ahead of 2.
        term = Plus(read("a", ("", 10)), Plus(read("a", ("", 2)), read("a", ("", 9))))
        self.check(cloth_with(Line("b", [], [], term), tables={"a": ["z"]}, lengths={"z": 11}),
                   {"a": [(2,), (9,), (10,)], "b": [()]})

    def test_cells_of_like_numbers_of_other_arrays(self):
        lines = [Line("b", ["x"], [], ONE), Line("c", ["x"], [], ONE), Line("d", [], [], read("c", ("", 1)))]
        self.check(cloth_with(*lines, tables={"a": ["x"]}, outs=["d"]), {"a": [], "b": [], "c": [(1,)], "d": [()]})

    def test_of_a_program(self):
        total = Sum("k", Guard("k", 0, 2, Read("a", [("k", 0)]), Number(0)))
        lets = [Let("b", ["x"], Plus(Read("a", [("x", 0)]), total)), Let("c", [], Read("b", [("", 2)]))]
        cloth = cloth_of(Program(10, [("x", 4), ("k", 3)], [("a", ["x"])], lets, ["c"]))
        self.check(cloth, {"a": [(0,), (1,), (2,)], "s0": [()], "b": [(2,)], "c": [()]})

    def test_as_many_axes_as_told(self):
        axes = list("pqrstuvw")
        lines = [Line("b", axes, [], ONE), Line("c", [], [], read("b", *[("", number % 2) for number in range(8)]))]
        self.check(cloth_with(*lines, lengths={axis: 2 for axis in axes}, outs=["c"]),
                   {"b": [(0, 1, 0, 1, 0, 1, 0, 1)], "c": [()]})

    def test_a_long_chain_within_one_line(self):
        # Each cell reads the one ahead in its column, and of the first row the one ahead: 3600 steps.
        across = Guard("v", 1, 60, read("b", ("u", 0), ("v", -1)), ONE)
        lines = [Line("b", ["u", "v"], [], Guard("u", 1, 60, read("b", ("u", -1), ("v", 0)), across)),
                 Line("c", [], [], read("b", ("", 59), ("", 30)))]
        told = wanted_of(cloth_with(*lines, lengths={"u": 60, "v": 60}, outs=["c"]))
        self.assertEqual(told["b"], [(0, v) for v in range(31)] + [(u, 30) for u in range(1, 60)])

    def test_many_cloths_against_a_plain_walk(self):
        mill = Mill(83)
        some = 0
        for again in range(150):
            for cloth in (cloth_of(mill.program()), mill.cloth(), mill.grid()):
                for other in (cloth, mill.with_outs(cloth, 1), mill.with_outs(cloth, 3)):
                    wanted = plain_wanted(other)
                    self.check(other, wanted)
                    told = [cell for line in cloth.lines for cell in wanted[line.name]]
                    every = [cell for line in cloth.lines for cell in cells(line.axes, cloth.lengths)]
                    some = some + (0 < len(told) < len(every))
        # A look at the mill itself: many cloths have both.
        self.assertGreater(some, 300)


class TheAskersOwn(Wanted):
    def test_kinds(self):
        told = wanted_of(cloth_with(Line("b", ["x"], [], read("n")), tables=TABLES))
        self.assertIs(type(told), dict)
        for array, kept in told.items():
            self.assertEqual([type(array), type(kept)], [str, list])
            for cell in kept:
                self.assertIs(type(cell), tuple)
                self.assertEqual([type(number) for number in cell], [int] * len(TABLES.get(array, ["x"])))

    def test_the_asker_changes_what_was_told(self):
        cloth = cloth_with(Line("b", ["x"], [], read("a", ("x", 0))), tables=TABLES, outs=["b", "n"])
        told = wanted_of(cloth)
        wanted = {"a": [(0,), (1,)], "g": [], "n": [()], "b": [(0,), (1,)]}
        for kept in told.values():
            kept.append((9, 9))
        self.check(cloth, wanted)
        told["a"].clear()
        told["q"] = []
        self.check(cloth, wanted)
        told.clear()
        self.check(cloth, wanted)

    def test_two_arrays_do_not_share_a_list(self):
        told = wanted_of(cloth_with(Line("b", ["x"], [], ONE), Line("c", ["x"], [], ONE), tables=TABLES))
        told["b"].append(())
        told["a"].append(())
        self.assertEqual((told["c"], told["g"]), ([(0,), (1,)], []))

    def test_the_cloth_stays(self):
        cloth = cloth_with(Line("b", ["x"], ["k"], read("a", ("x", 0))), tables=TABLES)
        wanted_of(cloth)
        self.assertEqual((cloth.lengths, cloth.arrays), (LENGTHS, {**TABLES, "b": ["x"]}))
        self.assertEqual((cloth.tables, cloth.outs), (["a", "g", "n"], ["b"]))
        self.assertEqual((cloth.lines[0].axes, cloth.lines[0].sums), (["x"], ["k"]))

    def test_two_cloths_asked_in_turn(self):
        lines = [Line("b", ["x"], [], Place("x")), Line("c", [], [], read("b", ("", 1)))]
        for again in range(2):
            self.check(cloth_with(*lines, outs=["c"]), {"b": [(1,)], "c": [()]})
            self.check(cloth_with(*lines, outs=["b"]), {"b": [(0,), (1,)], "c": []})

    def test_steps_as_many_as_told(self):
        cloth = cloth_with(Line("b", ["u", "v"], [], read("a", ("v", 0))), lengths={"u": 60, "v": 60},
                           tables={"a": ["v"]})
        self.assertEqual(len(plain_order(cloth)), 3600)
        self.check(cloth, {"a": [(v,) for v in range(60)], "b": cells(["u", "v"], cloth.lengths)})


if __name__ == "__main__":
    unittest.main()
