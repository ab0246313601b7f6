import unittest

from arrayloom.judging import judge
from arrayloom.lifting import cloth_of
from arrayloom.lines import Cloth
from arrayloom.lines import Line
from arrayloom.lives import crowd_of
from arrayloom.lives import lives_of
from arrayloom.moves import planned
from arrayloom.programs import Let
from arrayloom.programs import Program
from arrayloom.steps import first_order
from arrayloom.steps import steps_of
from arrayloom.terms import Guard
from arrayloom.terms import Number
from arrayloom.terms import Place
from arrayloom.terms import Plus
from arrayloom.terms import Read
from arrayloom.terms import Sum
from tests.mill import plain_crowd
from tests.mill import plain_lives
from tests.mill import small_cloths
from tests.samples import LENGTHS
from tests.samples import cloth_with

ONE = Number(1)
TABLES = {"a": ["x"], "g": ["x", "y"], "n": []}


def read(array, *indexes):
    return Read(array, list(indexes))


class Lives(unittest.TestCase):
    def check(self, cloth, steps, wanted):
        judge(cloth, steps)
        kept = list(steps)
        for again in range(2):
            told = lives_of(cloth, steps)
            self.assertEqual(told, wanted)
            self.assertEqual(sorted(told), sorted(cloth.arrays))
        self.assertEqual(lives_of(cloth=cloth, steps=steps), wanted)
        self.assertEqual(plain_lives(cloth, steps), wanted)
        self.assertEqual(steps, kept)

    def check_first(self, cloth, wanted):
        self.check(cloth, first_order(cloth), wanted)


class Firsts(Lives):
    def test_cells_of_tables(self):
        lines = [Line("b", ["x"], [], ONE), Line("c", ["x"], [], read("a", ("x", 0)))]
        self.check_first(cloth_with(*lines, tables={"a": ["x"]}),
                         {"a": {(0,): (0, 2), (1,): (0, 3)}, "b": {(0,): (1, 4), (1,): (2, 4)},
                          "c": {(0,): (3, 4), (1,): (4, 4)}})

    def test_of_a_table_that_the_first_step_reads(self):
        self.check_first(cloth_with(Line("b", [], [], read("n")), tables={"n": []}),
                         {"n": {(): (0, 0)}, "b": {(): (1, 1)}})

    def test_right_behind_the_set(self):
        self.check_first(cloth_with(Line("b", ["y"], [], ONE)), {"b": {(0,): (1, 3), (1,): (2, 3), (2,): (3, 3)}})
        cloth = cloth_with(Line("b", ["y"], [], ONE))
        self.check(cloth, first_order(cloth)[::-1], {"b": {(0,): (3, 3), (1,): (2, 3), (2,): (1, 3)}})

    def test_of_a_line_with_sums_right_behind_the_start(self):
        cloth = cloth_with(Line("b", ["x"], ["k"], ONE))
        self.check_first(cloth, {"b": {(0,): (1, 6), (1,): (4, 6)}})
        start, first, second, other_start, other_first, other_second = first_order(cloth)
        steps = [other_start, start, second, other_second, first, other_first]
        self.check(cloth, steps, {"b": {(0,): (2, 6), (1,): (1, 6)}})

    def test_a_start_far_ahead_of_its_adds(self):
        lines = [Line("b", [], ["k"], ONE), Line("c", ["y"], [], ONE)]
        cloth = cloth_with(*lines)
        order = first_order(cloth)
        self.check(cloth, [order[0]] + order[3:] + order[1:3],
                   {"b": {(): (1, 6)}, "c": {(0,): (2, 6), (1,): (3, 6), (2,): (4, 6)}})


class Lasts(Lives):
    def test_an_out_s_cell_lives_to_the_end(self):
        lines = [Line("b", ["x"], [], ONE), Line("c", ["x"], [], read("b", ("x", 0))), Line("d", [], [], ONE)]
        self.check_first(cloth_with(*lines, outs=["b", "d"]),
                         {"b": {(0,): (1, 5), (1,): (2, 5)}, "c": {}, "d": {(): (5, 5)}})

    def test_an_out_s_cell_that_is_read_behind(self):
        lines = [Line("b", ["x"], [], ONE), Line("c", [], [], read("b", ("", 0))), Line("d", [], [], ONE)]
        self.check_first(cloth_with(*lines, outs=["b", "c", "d"]),
                         {"b": {(0,): (1, 4), (1,): (2, 4)}, "c": {(): (3, 4)}, "d": {(): (4, 4)}})

    def test_a_table_that_is_an_out(self):
        lines = [Line("b", ["x"], [], read("a", ("", 0)))]
        self.check_first(cloth_with(*lines, tables={"a": ["x"]}, outs=["a", "b"]),
                         {"a": {(0,): (0, 2), (1,): (0, 2)}, "b": {(0,): (1, 2), (1,): (2, 2)}})
        self.check_first(cloth_with(*lines, tables={"a": ["x"]}, outs=["a"]),
                         {"a": {(0,): (0, 2), (1,): (0, 2)}, "b": {}})

    def test_right_ahead_of_the_last_step_that_reads_it(self):
        lines = [Line("b", [], [], ONE), Line("c", [], [], read("b")), Line("d", [], [], read("b")),
                 Line("e", [], [], ONE)]
        self.check_first(cloth_with(*lines, outs=["c", "d", "e"]),
                         {"b": {(): (1, 2)}, "c": {(): (2, 4)}, "d": {(): (3, 4)}, "e": {(): (4, 4)}})

    def test_the_last_one_by_the_order_not_by_the_lines(self):
        lines = [Line("b", [], [], ONE), Line("c", [], [], read("b")), Line("d", [], [], read("b"))]
        cloth = cloth_with(*lines, outs=["c", "d"])
        b, c, d = first_order(cloth)
        self.check(cloth, [b, d, c], {"b": {(): (1, 2)}, "c": {(): (3, 3)}, "d": {(): (2, 3)}})

    def test_a_cell_that_is_read_by_the_very_next_step_alone(self):
        lines = [Line("b", ["x"], [], ONE), Line("c", [], [], read("b", ("", 1)))]
        self.check_first(cloth_with(*lines, outs=["c"]), {"b": {(1,): (2, 2)}, "c": {(): (3, 3)}})

    def test_reads_by_unwanted_steps_do_not_count(self):
        lines = [Line("b", ["x"], [], read("n")), Line("c", [], [], read("b", ("", 0))),
                 Line("d", [], [], Plus(read("b", ("", 0)), read("n")))]
        self.check_first(cloth_with(*lines, tables={"n": []}, outs=["c"]),
                         {"n": {(): (0, 0)}, "b": {(0,): (1, 2)}, "c": {(): (3, 4)}, "d": {}})

    def test_reads_by_unwanted_steps_of_a_line_with_wanted_ones(self):
        # Of c only the cell (0,) is wanted, but the cell (1,) reads the same cell of b behind it.
        lines = [Line("b", [], [], ONE), Line("c", ["x"], [], read("b")), Line("d", [], [], read("c", ("", 0)))]
        self.check_first(cloth_with(*lines, outs=["d"]), {"b": {(): (1, 1)}, "c": {(0,): (2, 3)}, "d": {(): (4, 4)}})

    def test_adds_that_read(self):
        lines = [Line("b", ["x"], [], ONE), Line("c", [], ["x"], read("b", ("x", 0)))]
        cloth = cloth_with(*lines, outs=["c"])
        self.check_first(cloth, {"b": {(0,): (1, 3), (1,): (2, 4)}, "c": {(): (3, 5)}})
        zero, one, start, first, second = first_order(cloth)
        self.check(cloth, [start, one, second, zero, first],
                   {"b": {(0,): (4, 4), (1,): (2, 2)}, "c": {(): (1, 5)}})

    def test_a_start_reads_nothing(self):
        lines = [Line("b", [], [], ONE), Line("c", ["x"], ["m"], read("b"))]
        cloth = cloth_with(*lines, outs=["c"])
        b, start, add, other_start, other_add = first_order(cloth)
        self.check(cloth, [b, start, add, other_start, other_add],
                   {"b": {(): (1, 4)}, "c": {(0,): (2, 5), (1,): (4, 5)}})
        self.check(cloth, [start, b, add, other_start, other_add],
                   {"b": {(): (2, 4)}, "c": {(0,): (1, 5), (1,): (4, 5)}})

    def test_adds_do_not_lengthen_the_life_of_their_own_cell(self):
        lines = [Line("b", [], ["k"], ONE), Line("c", [], [], read("b")), Line("d", ["x"], [], ONE)]
        self.check_first(cloth_with(*lines, outs=["c", "d"]),
                         {"b": {(): (1, 3)}, "c": {(): (4, 6)}, "d": {(0,): (5, 6), (1,): (6, 6)}})

    def test_a_line_that_reads_itself(self):
        running = Guard("y", 1, 3, read("b", ("y", -1)), ONE)
        lines = [Line("b", ["y"], [], running), Line("c", [], [], read("b", ("", 2)))]
        self.check_first(cloth_with(*lines, outs=["c"]),
                         {"b": {(0,): (1, 1), (1,): (2, 2), (2,): (3, 3)}, "c": {(): (4, 4)}})

    def test_a_cell_that_is_read_twice_by_one_step(self):
        lines = [Line("b", [], [], ONE), Line("c", [], [], Plus(read("b"), read("b")))]
        self.check_first(cloth_with(*lines, outs=["c"]), {"b": {(): (1, 1)}, "c": {(): (2, 2)}})

    def test_the_other_side_of_a_guard_does_not_read(self):
        lines = [Line("b", [], [], ONE), Line("c", ["y"], [], Guard("y", 1, 2, read("b"), ONE))]
        self.check_first(cloth_with(*lines, outs=["c"]),
                         {"b": {(): (1, 2)}, "c": {(0,): (2, 4), (1,): (3, 4), (2,): (4, 4)}})


class OrdersOfNests(Lives):
    def check_moved(self, cloth, moves, wanted):
        self.check(cloth, steps_of(planned(cloth, moves)), wanted)

    def test_a_swap(self):
        lines = [Line("b", ["x", "y"], [], read("a", ("x", 0)))]
        cloth = cloth_with(*lines, tables={"a": ["x"]})
        self.check_moved(cloth, [], {"a": {(0,): (0, 2), (1,): (0, 5)}, "b": {
            (0, 0): (1, 6), (0, 1): (2, 6), (0, 2): (3, 6), (1, 0): (4, 6), (1, 1): (5, 6), (1, 2): (6, 6)}})
        self.check_moved(cloth, [("swap", 0)], {"a": {(0,): (0, 4), (1,): (0, 5)}, "b": {
            (0, 0): (1, 6), (0, 1): (3, 6), (0, 2): (5, 6), (1, 0): (2, 6), (1, 1): (4, 6), (1, 2): (6, 6)}})

    def test_a_join(self):
        lines = [Line("b", ["y"], [], ONE), Line("c", ["y"], [], read("b", ("y", 0)))]
        cloth = cloth_with(*lines, outs=["c"])
        self.check_moved(cloth, [], {"b": {(0,): (1, 3), (1,): (2, 4), (2,): (3, 5)},
                                     "c": {(0,): (4, 6), (1,): (5, 6), (2,): (6, 6)}})
        self.check_moved(cloth, [("join", 0)], {"b": {(0,): (1, 1), (1,): (3, 3), (2,): (5, 5)},
                                                "c": {(0,): (2, 6), (1,): (4, 6), (2,): (6, 6)}})

    def test_cuts_and_a_swap(self):
        # Tiles of two columns: (0, 0), (0, 1), (1, 0), (1, 1), then (0, 2), (1, 2).
        cloth = cloth_with(Line("b", ["x", "y"], [], read("g", ("x", 0), ("y", 0))), tables={"g": ["x", "y"]})
        self.check_moved(cloth, [("cut", 1, 2), ("swap", 0)],
                         {"g": {(0, 0): (0, 0), (0, 1): (0, 1), (1, 0): (0, 2), (1, 1): (0, 3), (0, 2): (0, 4),
                                (1, 2): (0, 5)},
                          "b": {(0, 0): (1, 6), (0, 1): (2, 6), (1, 0): (3, 6), (1, 1): (4, 6), (0, 2): (5, 6),
                                (1, 2): (6, 6)}})

    def test_many_orders_against_a_plain_walk(self):
        orders = 0
        for mill, cloth in small_cloths(89, 60, 60):
            for steps in mill.orders(cloth):
                self.check(cloth, steps, plain_lives(cloth, steps))
                orders = orders + 1
        # A look at the mill itself.
        self.assertGreater(orders, 600)


class TheAskersOwn(Lives):
    def test_cells_that_are_not_wanted_are_not_there(self):
        lines = [Line("b", ["x"], [], read("a", ("x", 0))), Line("c", [], [], read("b", ("", 1)))]
        self.check_first(cloth_with(*lines, tables=TABLES, outs=["c"]),
                         {"a": {(1,): (0, 1)}, "g": {}, "n": {}, "b": {(1,): (2, 2)}, "c": {(): (3, 3)}})

    def test_a_cloth_without_lines(self):
        self.check(Cloth(10, {"x": 2}, {"a": ["x"], "n": []}, ["a", "n"], [], ["a"]), [],
                   {"a": {(0,): (0, 0), (1,): (0, 0)}, "n": {}})

    def test_kinds(self):
        cloth = cloth_with(Line("b", ["x"], ["k"], read("a", ("x", 0))), tables=TABLES)
        told = lives_of(cloth, first_order(cloth))
        self.assertIs(type(told), dict)
        for array, spans in told.items():
            self.assertEqual([type(array), type(spans)], [str, dict])
            for cell, life in spans.items():
                self.assertEqual([type(cell), type(life)], [tuple, tuple])
                self.assertEqual([type(number) for number in life], [int, int])

    def test_the_asker_changes_what_was_told(self):
        cloth = cloth_with(Line("b", ["x"], [], read("a", ("x", 0))), tables=TABLES)
        wanted = {"a": {(0,): (0, 0), (1,): (0, 1)}, "g": {}, "n": {}, "b": {(0,): (1, 2), (1,): (2, 2)}}
        told = lives_of(cloth, first_order(cloth))
        for spans in told.values():
            spans[(7,)] = (7, 7)
        self.check_first(cloth, wanted)
        told["b"].clear()
        told.clear()
        self.check_first(cloth, wanted)

    def test_the_asker_changes_the_list_of_steps_later(self):
        cloth = cloth_with(Line("b", ["x"], [], ONE))
        steps = first_order(cloth)
        told = lives_of(cloth, steps)
        crowd = crowd_of(cloth, steps)
        steps.reverse()
        self.assertEqual(told, {"b": {(0,): (1, 2), (1,): (2, 2)}})
        self.assertEqual(crowd, (2, [("b", (0,)), ("b", (1,))]))
        self.check(cloth, steps, {"b": {(0,): (2, 2), (1,): (1, 2)}})
        steps.clear()
        self.check_first(cloth, told)

    def test_the_cloth_stays(self):
        cloth = cloth_with(Line("b", ["x"], ["k"], read("a", ("x", 0))), tables=TABLES)
        lives_of(cloth, first_order(cloth))
        crowd_of(cloth, first_order(cloth))
        self.assertEqual((cloth.lengths, cloth.arrays), (LENGTHS, {**TABLES, "b": ["x"]}))
        self.assertEqual((cloth.tables, cloth.outs), (["a", "g", "n"], ["b"]))
        self.assertEqual((cloth.lines[0].axes, cloth.lines[0].sums), (["x"], ["k"]))


class Crowds(unittest.TestCase):
    def check(self, cloth, steps, wanted):
        judge(cloth, steps)
        kept = list(steps)
        for again in range(2):
            self.assertEqual(crowd_of(cloth, steps), wanted)
        self.assertEqual(crowd_of(cloth=cloth, steps=steps), wanted)
        self.assertEqual(plain_crowd(cloth, steps), wanted)
        self.assertEqual(steps, kept)

    def check_first(self, cloth, wanted):
        self.check(cloth, first_order(cloth), wanted)

    def test_the_first_of_several_gaps(self):
        running = Guard("y", 1, 3, read("b", ("y", -1)), ONE)
        # Gap 0 has no cell; one cell is live at each of the gaps 1, 2, 3, 4.
        lines = [Line("b", ["y"], [], running), Line("c", [], [], read("b", ("", 2)))]
        self.check_first(cloth_with(*lines, outs=["c"]), (1, [("b", (0,))]))

    def test_a_step_parts_what_it_reads_last_from_what_it_writes(self):
        # a's first cell ends at gap 0, ahead of the step behind which b begins; so at gap 1 there are no more than two.
        lines = [Line("b", [], [], read("a", ("", 0))), Line("c", [], [], Plus(read("b"), read("a", ("", 1))))]
        self.check_first(cloth_with(*lines, tables={"a": ["x"]}, outs=["c"]), (0, [("a", (0,)), ("a", (1,))]))

    def test_a_gap_at_which_one_cell_ends_and_another_begins(self):
        # b has the life (1, 2), c the life (2, 3): at gap 2 both are live.
        lines = [Line("b", [], [], ONE), Line("c", [], [], ONE), Line("d", [], [], read("b")),
                 Line("e", [], [], read("c"))]
        cloth = cloth_with(*lines, outs=["d", "e"])
        self.check_first(cloth, (2, [("b", ()), ("c", ())]))
        b, c, d, e = first_order(cloth)
        self.check(cloth, [b, d, c, e], (3, [("c", ()), ("d", ())]))

    def test_gap_0(self):
        lines = [Line("b", [], [], Plus(read("a", ("", 0)), read("a", ("", 1))))]
        self.check_first(cloth_with(*lines, tables={"a": ["x"]}), (0, [("a", (0,)), ("a", (1,))]))

    def test_the_last_gap(self):
        lines = [Line("b", ["y"], [], ONE)]
        self.check_first(cloth_with(*lines), (3, [("b", (0,)), ("b", (1,)), ("b", (2,))]))

    def test_a_gap_between(self):
        lines = [Line("b", ["y"], [], ONE), Line("c", [], ["y"], read("b", ("y", 0)))]
        self.check_first(cloth_with(*lines, outs=["c"]), (4, [("b", (0,)), ("b", (1,)), ("b", (2,)), ("c", ())]))

    def test_arrays_in_order_and_cells_in_row_order(self):
        # The cells come in another order than they are told in, and the names in another one than that of letters.
        lines = [Line("z", ["y"], [], ONE), Line("c", ["x"], [], read("q", ("x", 0))), Line("b", [], [], ONE)]
        cloth = cloth_with(*lines, tables={"q": ["x"], "a": ["x"]}, outs=["b", "a", "c", "z", "q"])
        steps = first_order(cloth)[::-1]
        self.check(cloth, steps, (6, [("q", (0,)), ("q", (1,)), ("a", (0,)), ("a", (1,)), ("z", (0,)), ("z", (1,)),
                                      ("z", (2,)), ("c", (0,)), ("c", (1,)), ("b", ())]))

    def test_outs_that_are_tables_alone(self):
        lines = [Line("b", ["x"], [], read("g", ("", 0), ("", 0)))]
        self.check_first(cloth_with(*lines, tables=TABLES, outs=["n", "a"]), (0, [("a", (0,)), ("a", (1,)), ("n", ())]))

    def test_a_cloth_without_lines(self):
        self.check(Cloth(10, {"x": 2}, {"a": ["x"], "n": []}, ["a", "n"], [], ["a"]), [],
                   (0, [("a", (0,)), ("a", (1,))]))

    def test_unwanted_steps_make_gaps_too(self):
        lines = [Line("b", ["y"], [], ONE), Line("c", [], [], ONE)]
        self.check_first(cloth_with(*lines, outs=["c"]), (4, [("c", ())]))

    def test_unwanted_cells_are_in_no_crowd(self):
        lines = [Line("b", ["y"], [], ONE), Line("c", [], [], read("b", ("", 1)))]
        self.check_first(cloth_with(*lines, tables=TABLES, outs=["c"]), (2, [("b", (1,))]))

    def test_behind_moves(self):
        lines = [Line("b", ["y"], [], Place("y")), Line("c", ["y"], [], read("b", ("y", 0))),
                 Line("d", [], [], Plus(read("c", ("", 0)), Plus(read("c", ("", 1)), read("c", ("", 2)))))]
        cloth = cloth_with(*lines, outs=["d"])
        self.check_first(cloth, (3, [("b", (0,)), ("b", (1,)), ("b", (2,))]))
        self.check(cloth, steps_of(planned(cloth, [("join", 0)])), (5, [("b", (2,)), ("c", (0,)), ("c", (1,))]))

    def test_of_a_program(self):
        total = Sum("k", Read("a", [("k", 0)]))
        cloth = cloth_of(Program(10, [("x", 2), ("k", 2)], [("a", ["x"])],
                                 [Let("b", ["x"], Plus(Read("a", [("x", 0)]), total))], ["b"]))
        self.check_first(cloth, (1, [("a", (0,)), ("a", (1,)), ("s0", ())]))

    def test_kinds(self):
        cloth = cloth_with(Line("b", ["x"], [], ONE))
        told = crowd_of(cloth, first_order(cloth))
        self.assertEqual([type(told), len(told), type(told[0]), type(told[1])], [tuple, 2, int, list])
        for member in told[1]:
            self.assertEqual([type(member), type(member[0]), type(member[1])], [tuple, str, tuple])

    def test_the_asker_changes_what_was_told(self):
        cloth = cloth_with(Line("b", ["x"], [], ONE))
        told = crowd_of(cloth, first_order(cloth))
        told[1].append(("q", ()))
        self.check_first(cloth, (2, [("b", (0,)), ("b", (1,))]))
        told[1].clear()
        self.check_first(cloth, (2, [("b", (0,)), ("b", (1,))]))

    def test_many_orders_against_a_plain_walk(self):
        gaps = []
        for mill, cloth in small_cloths(97, 60, 60):
            for steps in mill.orders(cloth):
                crowd = plain_crowd(cloth, steps)
                self.check(cloth, steps, crowd)
                gaps.append("first" if crowd[0] == 0 else "last" if crowd[0] == len(steps) else "between")
        # A look at the mill itself.
        self.assertGreater(min(gaps.count(word) for word in ("first", "between", "last")), 50)

    def test_steps_and_cells_as_many_as_told(self):
        # 3600 cells of a table, 3600 steps, each of which reads its own cell and one far ahead of it.
        lengths = {"u": 60, "v": 60}
        term = Plus(read("t", ("u", 0), ("v", 0)), Guard("u", 30, 60, read("b", ("u", -30), ("v", 0)), ONE))
        cloth = cloth_with(Line("b", ["u", "v"], [], term), Line("c", [], [], read("b", ("", 59), ("", 59))),
                           lengths=lengths, tables={"t": ["u", "v"]}, outs=["t", "c"])
        gap, crowd = crowd_of(cloth, first_order(cloth))
        # Of b the cells (29, 59) and (59, 59) alone are wanted, each right up to the step that reads it.
        self.assertEqual((gap, len(crowd)), (29 * 60 + 60, 3601))
        self.assertEqual(crowd[-1], ("b", (29, 59)))


if __name__ == "__main__":
    unittest.main()
