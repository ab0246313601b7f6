import unittest

from arrayloom.errors import Clash
from arrayloom.homes import homes_of
from arrayloom.judging import judge
from arrayloom.lifting import cloth_of
from arrayloom.lines import Cloth
from arrayloom.lines import Line
from arrayloom.machine import go
from arrayloom.meaning import meaning
from arrayloom.moves import planned
from arrayloom.nests import first_nest
from arrayloom.programs import Let
from arrayloom.programs import Program
from arrayloom.steps import steps_of
from arrayloom.tape import tape_of
from arrayloom.terms import Guard
from arrayloom.terms import Minus
from arrayloom.terms import Number
from arrayloom.terms import Place
from arrayloom.terms import Plus
from arrayloom.terms import Read
from arrayloom.terms import Sum
from arrayloom.terms import Times
from tests.mill import cells
from tests.mill import nodes_of
from tests.mill import parts_in
from tests.mill import plain_steps
from tests.mill import plain_trace
from tests.mill import small_cloths
from tests.mill import woven
from tests.plain_machine import done
from tests.samples import LENGTHS
from tests.samples import cloth_with
from tests.samples import cut_loop
from tests.samples import deed
from tests.samples import loop

ONE = Number(1)
TABLES = {"a": ["x"], "g": ["x", "y"], "n": []}
FAR = 10 ** 29

# Of each word of point 33, the kinds of what stands behind it; the place that a row leads to comes last.
KINDS = {"push": [int], "count": [int], "plus": [], "minus": [], "times": [], "load": [str, tuple],
         "store": [str, tuple], "gather": [str, tuple], "skip": [str, tuple, int], "jump": [int], "zero": [int],
         "begin": [int, int, int], "step": [int, int], "unless": [int, int, int, int],
         "within": [int, int, int, int]}
LEADING = ("skip", "jump", "step", "unless", "within")


def read(array, *indexes):
    return Read(array, list(indexes))


def some_tables(cloth):
    """Numbers for the cells of the tables, all unlike where the wheel is great enough."""
    tables = {}
    for place, name in enumerate(cloth.tables):
        there = cells(cloth.arrays[name], cloth.lengths)
        tables[name] = [(3 + 1000 * place + 7 * number) % cloth.wheel for number in range(len(there))]
    return tables


def boxes_with(cloth, tables, room, homes):
    boxes = [None] * room
    for name in cloth.tables:
        for cell, number in zip(cells(cloth.arrays[name], cloth.lengths), tables[name]):
            if cell in homes[name]:
                boxes[homes[name][cell]] = number
    return boxes


class Tape(unittest.TestCase):
    def check(self, cloth, nest, tables=None):
        """Whatever point 35 tells; gives the trace."""
        steps = steps_of(nest)
        judge(cloth, steps)
        tables = some_tables(cloth) if tables is None else tables
        room, homes = homes_of(cloth, steps)
        tape = tape_of(cloth, nest)
        self.check_rows(tape, cloth, nest)
        most = 2000 * len(steps) + 2000
        first = boxes_with(cloth, tables, room, homes)
        boxes, trace = go(tape, cloth.wheel, homes, first, most)
        self.assertEqual(done(tape, cloth.wheel, homes, first, most)[:2], (boxes, trace))
        self.assertEqual(trace, plain_trace(cloth, plain_steps(nest), homes))
        numbers = woven(cloth, tables)
        for array in cloth.outs:
            told = [boxes[homes[array][cell]] for cell in cells(cloth.arrays[array], cloth.lengths)]
            self.assertEqual(told, numbers[array])
        self.assertEqual(tape_of(cloth=cloth, nest=nest), tape)
        return trace

    def check_rows(self, tape, cloth, nest):
        self.assertIs(type(tape), list)
        for row in tape:
            self.assertIs(type(row), tuple)
            self.assertEqual([type(member) for member in row[1:]], KINDS[row[0]])
            if row[0] in LEADING:
                self.assertIn(row[-1], range(len(tape) + 1))
            if row[0] in ("load", "store", "gather", "skip"):
                self.assertIn(row[1], cloth.arrays)
                for index in row[2]:
                    self.assertEqual([type(index), type(index[0]), type(index[1])], [tuple, int, int])
        parts = sum(parts_in(line.term) for line in cloth.lines)
        self.assertLessEqual(len(tape), 8 * len(nodes_of(nest[1])) + 8 * parts)

    def check_first(self, cloth, tables=None):
        return self.check(cloth, first_nest(cloth), tables)

    def check_moved(self, cloth, *moves):
        return self.check(cloth, planned(cloth, list(moves)))

    def check_term(self, term, axes=("x",), sums=(), **more):
        """A line of this term, and one with another sum."""
        for others in ([], ["k"]):
            line = Line("b", list(axes), list(sums) + others, term)
            self.check_first(cloth_with(line, tables=TABLES, wheel=10 ** 12, **more))


class Terms(Tape):
    def test_a_number(self):
        for number in (0, 1, -1, 9, 10, 11, 10 ** 30 - 1, 1 - 10 ** 30):
            self.check_term(Number(number))
            self.check_first(cloth_with(Line("b", [], [], Number(number)), wheel=10 ** 29 + 7))

    def test_a_place(self):
        self.check_term(Place("x"))
        self.check_term(Place("y"), sums=["y"])
        self.check_term(Place("p"), axes=["y", "p", "x"], sums=["m"])
        self.check_first(cloth_with(Line("b", ["y"], [], Place("y")), wheel=2))

    def test_places_of_own_axes_and_of_sums(self):
        term = Plus(Times(Place("x"), Number(1000)), Plus(Times(Place("y"), Number(100)), Place("z")))
        for axes, sums in ((["x", "y", "z"], []), (["z", "y", "x"], []), (["y"], ["z", "x"]), ([], ["x", "z", "y"]),
                           (["x", "z"], ["y"])):
            cloth = cloth_with(Line("b", axes, sums, term), lengths={"x": 2, "y": 3, "z": 4}, wheel=10 ** 12)
            self.check_first(cloth)

    def test_reads(self):
        self.check_term(read("a", ("x", 0)))
        self.check_term(read("n"))
        self.check_term(read("g", ("x", 0), ("y", 0)), axes=["y", "x"])
        self.check_term(read("g", ("x", 0), ("y", 0)), axes=["x"], sums=["y"])
        self.check_term(read("g", ("x", 0), ("y", 0)), axes=[], sums=["y", "x"])
        self.check_term(read("g", ("x", 0), ("x", 1)), axes=["m", "x"])

    def test_shifts(self):
        self.check_term(Guard("x", 1, 2, read("a", ("x", -1)), read("a", ("x", 1))))
        self.check_term(Guard("y", 0, 2, read("g", ("x", 0), ("y", 1)), read("n")), axes=["y"], sums=["x"])
        self.check_term(Guard("y", 0, 2, read("g", ("m", 1), ("y", 1)), ONE), axes=["y"], sums=["m"])

    def test_indexes_without_an_axis(self):
        self.check_term(read("a", ("", 1)))
        self.check_term(read("g", ("", 1), ("", 2)), axes=[])
        self.check_term(read("g", ("x", 0), ("", 0)))
        self.check_term(read("g", ("", 1), ("y", 0)), axes=["y"])

    def test_numbers_and_shifts_of_thirty_figures(self):
        beyond = Plus(read("a", ("x", FAR)), Plus(read("a", ("", FAR)), read("n", ("x", -FAR))))
        self.check_term(Guard("x", -FAR, FAR, Plus(Number(FAR), read("a", ("x", 0))), beyond))
        self.check_term(Guard("x", FAR, FAR + 1, beyond, Times(Number(-FAR), read("a", ("x", 0)))))
        self.check_first(cloth_with(Line("b", ["x"], [], Times(Number(FAR - 1), Number(FAR - 2))), wheel=FAR + 3))

    def test_pairs(self):
        for pair in (Plus, Minus, Times):
            self.check_term(pair(read("a", ("x", 0)), Number(5)))
            self.check_term(pair(Number(5), read("a", ("x", 0))))
            self.check_term(pair(read("a", ("", 1)), read("g", ("x", 0), ("", 2))))

    def test_pairs_within_pairs(self):
        left, right = Minus(read("a", ("x", 0)), read("n")), Times(read("a", ("", 1)), read("a", ("", 0)))
        for pair in (Plus, Minus, Times):
            self.check_term(pair(left, right))
            self.check_term(pair(pair(right, left), pair(left, ONE)))

    def test_pairs_grown_to_the_left_and_to_the_right(self):
        for pair in (Plus, Minus, Times):
            left, right = read("a", ("x", 0)), read("a", ("x", 0))
            for number in range(39):
                left = pair(left, read("a", ("", number % 2)))
                right = pair(Number(number), right)
            self.check_term(left)
            self.check_term(right)

    def test_guards_from_either_side(self):
        for low, high in ((0, 1), (1, 2), (0, 2), (2, 9), (1, 1), (2, 1), (-3, 0), (-3, 9)):
            self.check_term(Guard("x", low, high, read("a", ("x", 0)), read("n")))
            self.check_term(Plus(Guard("x", low, high, ONE, read("n")), read("a", ("x", 0))))
            self.check_term(Guard("y", low, high, read("g", ("x", 0), ("y", 0)), read("n")), sums=["y"])

    def test_guards_within_one_another(self):
        inner = Guard("x", 1, 2, read("g", ("x", 0), ("y", 0)), Guard("y", 2, 3, read("n"), ONE))
        outer = Guard("x", 0, 1, Guard("y", 1, 2, read("a", ("x", 0)), Number(4)), read("a", ("x", -1)))
        self.check_term(Guard("y", 1, 3, inner, outer), axes=["x", "y"])
        self.check_term(Guard("y", 1, 3, outer, inner), axes=["y"], sums=["x"])
        self.check_term(Minus(Guard("y", 1, 3, inner, outer), Times(inner, outer)), axes=["y", "x"])

    def test_guards_round_reads_that_would_be_refused(self):
        # These are not looked at; a machine that loaded them would find no home.
        self.check_term(Guard("x", 0, 1, ONE, Guard("x", 1, 2, ONE, read("a", ("x", 9)))))
        self.check_term(Guard("x", 5, 9, Plus(read("a", ("x", 7)), read("g", ("", -1), ("", 0))), read("a", ("x", 0))))
        running = Guard("y", 1, 3, Plus(read("b", ("y", -1)), read("n")), ONE)
        self.check_term(running, axes=["y"])

    def test_one_term_in_several_places(self):
        once = Guard("x", 1, 2, read("a", ("x", -1)), Plus(read("n"), Place("x")))
        self.check_term(Times(once, Minus(once, Plus(once, once))))

    def test_the_same_axis_counts_for_another_loop_in_another_line(self):
        lines = [Line("b", ["x", "y"], [], Plus(Place("x"), Times(Number(7), Place("y")))),
                 Line("c", ["y"], ["x"], Plus(Place("x"), Times(read("b", ("x", 0), ("y", 0)), Place("y"))))]
        self.check_first(cloth_with(*lines, wheel=1000))

    def test_an_axis_whose_name_is_the_text_without_signs(self):
        # As an index it stands for no axis, as a place for the axis of that name.
        term = Plus(Place(""), Guard("", 1, 2, read("a", ("", 0)), read("a", ("", 1))))
        self.check_first(cloth_with(Line("b", [""], [], term), lengths={"": 3, "x": 2}, tables={"a": ["x"]}))

    def test_many_parts_and_deep(self):
        term = Guard("x", 0, 1, read("a", ("x", 0)), read("n"))
        for again in range(7):
            term = Plus(term, term)
        self.assertEqual(parts_in(term), 511)
        self.check_term(term)
        term = read("a", ("x", 0))
        for again in range(39):
            term = Guard("x", again % 2, 2, term, Number(again))
        self.check_term(term)


class Steps(Tape):
    def test_a_set(self):
        cloth = cloth_with(Line("b", ["x"], [], read("a", ("x", 0))), tables=TABLES)
        self.assertEqual(self.check_first(cloth), [("read", 0), ("write", 0), ("read", 1), ("write", 1)])

    def test_a_start_and_its_adds(self):
        cloth = cloth_with(Line("b", [], ["k"], read("n")), tables=TABLES)
        self.assertEqual(self.check_first(cloth), [
            ("write", 1), ("read", 0), ("read", 1), ("write", 1), ("read", 0), ("read", 1), ("write", 1)])

    def test_reads_in_the_order_of_writing_and_as_often_as_they_come(self):
        term = Plus(read("a", ("", 1)), Minus(Times(read("a", ("", 0)), read("n")), read("a", ("", 1))))
        cloth = cloth_with(Line("b", [], [], term), tables=TABLES, outs=["a", "b"])
        self.assertEqual(self.check_first(cloth), [("read", 1), ("read", 0), ("read", 2), ("read", 1), ("write", 2)])
        cloth = cloth_with(Line("b", [], ["m"], term), tables=TABLES)
        self.assertEqual(self.check_first(cloth), [
            ("write", 3), ("read", 1), ("read", 0), ("read", 2), ("read", 1), ("read", 3), ("write", 3)])

    def test_a_line_that_reads_nothing(self):
        self.assertEqual(self.check_first(cloth_with(Line("b", ["x"], [], ONE))), [("write", 0), ("write", 1)])

    def test_the_other_side_of_a_guard_leaves_no_trace(self):
        term = Guard("x", 0, 1, read("n"), Plus(read("a", ("", 0)), read("a", ("", 1))))
        cloth = cloth_with(Line("b", ["x"], [], term), tables=TABLES, outs=["b", "a", "n"])
        self.assertEqual(self.check_first(cloth), [
            ("read", 2), ("write", 3), ("read", 0), ("read", 1), ("write", 4)])

    def test_steps_that_are_not_wanted_leave_no_trace(self):
        lines = [Line("b", ["y"], [], read("n")), Line("c", [], [], read("b", ("", 1)))]
        cloth = cloth_with(*lines, tables=TABLES, outs=["c"])
        self.assertEqual(self.check_first(cloth), [("read", 0), ("write", 0), ("read", 0), ("write", 0)])
        lines = [Line("b", ["x"], ["y"], read("g", ("x", 0), ("y", 0))), Line("c", [], [], read("b", ("", 1)))]
        self.check_first(cloth_with(*lines, tables=TABLES, outs=["c"]))

    def test_lines_that_are_not_wanted_at_all(self):
        lines = [Line("b", ["y"], [], read("n")), Line("c", ["x"], ["y"], read("b", ("y", 0))), Line("d", [], [], ONE)]
        self.assertEqual(self.check_first(cloth_with(*lines, tables=TABLES, outs=["d"])), [("write", 0)])
        self.assertEqual(self.check_first(cloth_with(*lines, tables=TABLES, outs=["a"])), [])

    def test_tables_as_outs(self):
        lines = [Line("b", ["x"], [], Plus(read("a", ("x", 0)), ONE))]
        self.check_first(cloth_with(*lines, tables=TABLES, outs=["a", "b"]))
        self.check_first(cloth_with(*lines, tables=TABLES, outs=["g", "n"]))

    def test_lines_without_axes(self):
        lines = [Line("b", [], [], read("n")), Line("c", [], [], Plus(read("b"), read("n")))]
        self.check_first(cloth_with(*lines, tables=TABLES))

    def test_a_cloth_without_lines(self):
        cloth = Cloth(10, {"x": 2}, {"a": ["x"]}, ["a"], [], ["a"])
        self.assertEqual(self.check(cloth, (0, ())), [])
        self.assertEqual(tape_of(cloth, (0, ())), [])

    def test_lines_that_read_one_another_and_themselves(self):
        running = Guard("y", 1, 3, Plus(read("b", ("y", -1)), read("g", ("", 1), ("y", 0))), read("n"))
        lines = [Line("b", ["y"], [], running), Line("c", [], ["y"], Times(read("b", ("y", 0)), Place("y"))),
                 Line("d", ["x"], [], Minus(read("c"), read("a", ("x", 0)))),
                 Line("e", ["x"], ["k"], Guard("x", 1, 2, read("e", ("x", -1)), read("d", ("k", 0))))]
        for outs in (["b", "c", "d", "e"], ["e"], ["d"], ["c", "a"], ["b"]):
            self.check_first(cloth_with(*lines, tables=TABLES, outs=outs, wheel=1000))

    def test_wheels(self):
        term = Minus(Times(read("a", ("x", 0)), Number(-7)), Place("x"))
        for wheel in (2, 3, 10, 10 ** 30 - 1):
            self.check_first(cloth_with(Line("b", ["x"], ["y"], term), tables=TABLES, wheel=wheel))

    def test_of_a_program(self):
        total = Sum("k", Times(Read("a", [("k", 0)]), Guard("k", 1, 3, Read("a", [("k", -1)]), Place("x"))))
        lets = [Let("b", ["x"], Plus(Read("a", [("x", 0)]), total)),
                Let("c", ["x"], Guard("x", 1, 4, Plus(Read("c", [("x", -1)]), Read("b", [("x", 0)])), Number(-1)))]
        program = Program(97, [("x", 4), ("k", 3)], [("a", ["x"])], lets, ["c", "a"])
        cloth = cloth_of(program)
        numbers = meaning(program, {"a": [5, 90, 33, 71]})
        self.check_first(cloth, {"a": [5, 90, 33, 71]})
        self.assertEqual(woven(cloth, {"a": [5, 90, 33, 71]})["c"], numbers["c"])


class Nests(Tape):
    def test_a_swap(self):
        lines = [Line("b", ["x", "y"], [], Plus(Times(Place("x"), Number(10)), read("g", ("x", 0), ("y", 0))))]
        self.check_moved(cloth_with(*lines, tables=TABLES, wheel=1000), ("swap", 0))

    def test_cuts_whose_widths_divide_the_size_or_do_not(self):
        lines = [Line("b", ["z"], [], read("t", ("z", 0))),
                 Line("c", [], ["z"], Times(read("b", ("z", 0)), Place("z")))]
        for size in (1, 2, 6, 7):
            cloth = cloth_with(*lines, lengths={"z": size}, tables={"t": ["z"]}, wheel=10 ** 6)
            for width in (1, 2, 3, 4, 6, 7, 8, FAR):
                self.check_moved(cloth, ("cut", 0, width))
                self.check_moved(cloth, ("cut", 3, width))
                self.check_moved(cloth, ("cut", 0, width), ("cut", 0, 2), ("cut", 3, 2), ("cut", 3, width))

    def test_tiles(self):
        both = Plus(Guard("x", 1, 5, read("b", ("x", -1), ("y", 0)), Place("y")),
                    Guard("y", 1, 4, read("b", ("x", 0), ("y", -1)), Place("x")))
        cloth = cloth_with(Line("b", ["x", "y"], [], both), lengths={"x": 5, "y": 4}, wheel=10 ** 9)
        for width in (1, 2, 3, 5, 9):
            self.check_moved(cloth, ("cut", 0, width), ("cut", 1, 3), ("swap", 3))
            self.check_moved(cloth, ("cut", 0, width), ("cut", 1, 3), ("swap", 3), ("swap", 0))

    def test_cuts_of_cuts(self):
        cloth = cloth_with(Line("b", ["z"], ["w"], Plus(Place("z"), Times(Number(100), Place("w")))),
                           lengths={"z": 11, "w": 5}, wheel=10 ** 9)
        self.check_moved(cloth, ("cut", 0, 3), ("cut", 0, 3), ("cut", 0, 2), ("cut", 2, 2), ("cut", 2, 2))

    def test_a_join(self):
        lines = [Line("b", ["z"], [], read("t", ("z", 0))),
                 Line("c", ["z"], [], Times(read("b", ("z", 0)), Place("z"))),
                 Line("d", ["z"], ["x"], Guard("z", 1, 6, read("c", ("z", -1)), read("b", ("z", 0))))]
        cloth = cloth_with(*lines, lengths={"z": 6, "x": 2}, tables={"t": ["z"]}, wheel=10 ** 6)
        self.check_moved(cloth, ("join", 0))
        self.check_moved(cloth, ("join", 0), ("join", 0))
        self.check_moved(cloth, ("join", 2), ("join", 0), ("cut", 0, 4))
        self.check_moved(cloth, ("cut", 0, 4), ("cut", 2, 4), ("join", 0), ("join", 8))

    def test_a_join_that_makes_cells_live_less_long(self):
        lines = [Line("b", ["y"], [], Place("y")), Line("c", ["y"], [], read("b", ("y", 0))),
                 Line("d", [], ["y"], read("c", ("y", 0)))]
        for outs in (["d"], ["c"], ["b", "d"]):
            self.check_moved(cloth_with(*lines, outs=outs), ("join", 0))

    def test_numbers_of_nodes_that_are_not_in_order(self):
        term = Plus(Times(Place("x"), Number(10)), Place("y"))
        cloth = cloth_with(Line("b", ["x", "y"], [], term), Line("c", ["y"], ["x"], read("b", ("x", 0), ("y", 0))),
                           wheel=1000)
        self.check(cloth, (90, (loop(31, 3, loop(7, 2, deed(50, 0, "set", (7, 31)))),
                                loop(4, 3, deed(9, 1, "start", (4,)), loop(89, 2, deed(0, 1, "add", (4,), (89,)))))))

    def test_a_deed_right_in_the_nest(self):
        cloth = cloth_with(Line("b", [], [], read("n")), Line("c", [], ["y"], read("b")), tables=TABLES)
        self.check(cloth, (7, (deed(2, 0, "set"), deed(1, 1, "start"), loop(0, 3, deed(6, 1, "add", (), (0,))))))

    def test_starts_and_adds_in_loops_of_their_own(self):
        cloth = cloth_with(Line("b", ["x"], ["y"], read("g", ("x", 0), ("y", 0))), tables=TABLES)
        self.check(cloth, (9, (loop(0, 2, deed(1, 0, "start", (0,))),
                               loop(2, 3, loop(3, 2, deed(4, 0, "add", (3,), (2,)))))))

    def test_adds_in_loops_that_are_cut(self):
        cloth = cloth_with(Line("b", [], ["z"], Times(Place("z"), Place("z"))), lengths={"z": 7}, wheel=1000)
        self.check(cloth, (9, (deed(8, 0, "start"),
                               loop(5, 3, cut_loop(3, 7, 3, 5, deed(1, 0, "add", (), (3,)))))))

    def test_a_loop_that_counts_not_right_within_the_one_that_it_names(self):
        cloth = cloth_with(Line("b", ["z", "w"], [], Plus(Times(Place("z"), Number(10)), Place("w"))),
                           lengths={"z": 5, "w": 3}, wheel=1000)
        self.check(cloth, (5, (loop(0, 3, loop(1, 3, cut_loop(2, 5, 2, 0, deed(3, 0, "set", (2, 1))))),)))

    def test_a_loop_that_has_no_count_at_times(self):
        # The loop 2 counts 0 within the first count of 0, and nothing within the other ones.
        cloth = cloth_with(Line("b", ["z"], [], Place("z")), Line("c", [], [], ONE), lengths={"z": 4})
        self.check(cloth, (5, (loop(0, 4, deed(1, 0, "set", (0,)), cut_loop(2, 1, 1, 0, deed(3, 1, "set"))),)))
        cloth = cloth_with(Line("b", ["z"], [], Place("z")), Line("c", ["w"], [], Place("w")),
                           lengths={"z": 4, "w": 3})
        self.check(cloth, (5, (loop(0, 4, deed(1, 0, "set", (0,)), cut_loop(2, 3, 2, 0, deed(3, 1, "set", (2,)))),)))

    def test_loops_of_one_count_round_all(self):
        cloth = cloth_with(Line("b", ["y"], [], read("a", ("", 1))), tables=TABLES)
        nest = (loop(0, 3, deed(1, 0, "set", (0,))),)
        for number in range(2, 50):
            nest = (loop(number, 1, *nest),)
        self.check(cloth, (50, nest))

    def test_nests_as_deep_as_told(self):
        # 59 loops and a deed: cuts by 1 of cuts by 1, each of which names the one round it.
        body = (deed(59, 0, "set", (58,)),)
        for number in range(58, 0, -1):
            body = (cut_loop(number, 40, 1, number - 1, *body),)
        term = read("a", ("", 1))
        for again in range(8):
            term = Plus(term, term)
        cloth = cloth_with(Line("b", ["z"], [], Plus(Place("z"), term)), lengths={"z": 40, "x": 2}, tables={"a": ["x"]})
        self.check(cloth, (60, (loop(0, 40, *body),)))

    def test_many_nests(self):
        moved, refused = 0, 0
        for mill, cloth in small_cloths(109, 90, 100):
            self.check_first(cloth)
            moves, nest = mill.row(first_nest(cloth), mill.dice.randint(1, 8))
            try:
                judge(cloth, plain_steps(nest))
            except Clash:
                refused = refused + 1
            else:
                self.check(cloth, nest)
                moved = moved + (moves != [])
        # A look at the mill itself: many pass, and some would not.
        self.assertGreater(moved, 250)
        self.assertGreater(refused, 20)


class Bounds(Tape):
    def test_steps_as_many_as_told(self):
        # 3600 steps, of which one in 60 is wanted, then an add for each of these.
        lines = [Line("b", ["u", "v"], [], Plus(Place("u"), read("t", ("u", 0), ("v", 0)))),
                 Line("c", [], ["u"], read("b", ("u", 0), ("", 59)))]
        cloth = cloth_with(*lines, lengths={"u": 60, "v": 60}, tables={"t": ["u", "v"]}, outs=["c"], wheel=10 ** 9)
        self.check_moved(cloth, ("cut", 0, 7), ("cut", 1, 16), ("cut", 4, 9))

    def test_lines_as_many_as_there_may_be_steps(self):
        lines = [Line("l0", [], [], read("n"))]
        for number in range(1, 2000):
            lines.append(Line(f"l{number}", [], [], Plus(read(f"l{number - 1}"), ONE)))
        self.check_first(cloth_with(*lines, tables=TABLES, outs=["l1999"]))

    def test_many_loops_beside_one_another_of_which_most_have_no_count(self):
        # The loop 0 counts to 60; each other one counts a single time, within its first count.
        lines = [Line("b", ["z"], [], Place("z"))] + [Line(f"l{number}", [], [], ONE) for number in range(900)]
        inside = [deed(1, 0, "set", (0,))]
        for number in range(900):
            inside.append(cut_loop(2 * number + 2, 1, 1, 0, deed(2 * number + 3, number + 1, "set")))
        self.check(cloth_with(*lines, lengths={"z": 60}), (3000, (loop(0, 60, *inside),)))


class TheAskersOwn(Tape):
    def test_the_asker_changes_what_was_told(self):
        cloth = cloth_with(Line("b", ["x"], ["k"], Guard("x", 0, 1, read("n"), ONE)), tables=TABLES)
        tape = tape_of(cloth, first_nest(cloth))
        kept = list(tape)
        tape.reverse()
        tape.append(("jump", 0))
        self.assertEqual(tape_of(cloth, first_nest(cloth)), kept)
        tape.clear()
        self.assertEqual(tape_of(cloth, first_nest(cloth)), kept)
        self.check_first(cloth)

    def test_the_nest_and_the_cloth_stay(self):
        cloth = cloth_with(Line("b", ["x"], ["k"], read("a", ("x", 0))), tables=TABLES)
        nest = planned(cloth, [("cut", 0, 2)])
        tape_of(cloth, nest)
        self.assertEqual(nest, planned(cloth, [("cut", 0, 2)]))
        self.assertEqual((cloth.lengths, cloth.arrays), (LENGTHS, {**TABLES, "b": ["x"]}))
        self.assertEqual((cloth.tables, cloth.outs), (["a", "g", "n"], ["b"]))
        self.assertEqual((cloth.lines[0].axes, cloth.lines[0].sums), (["x"], ["k"]))
        self.assertEqual(cloth.lines[0].term.indexes, [("x", 0)])

    def test_two_nests_asked_in_turn(self):
        cloth = cloth_with(Line("b", ["x", "y"], [], Plus(Place("x"), Place("y"))))
        for again in range(2):
            self.check_first(cloth)
            self.check_moved(cloth, ("swap", 0))


if __name__ == "__main__":
    unittest.main()
