import copy
import unittest

from arrayloom.errors import NoTable
from arrayloom.meaning import meaning
from arrayloom.programs import Let
from arrayloom.programs import Program
from arrayloom.rims import look
from arrayloom.shapes import work_of
from arrayloom.terms import Guard
from arrayloom.terms import Minus
from arrayloom.terms import Number
from arrayloom.terms import Place
from arrayloom.terms import Plus
from arrayloom.terms import Read
from arrayloom.terms import Sum
from arrayloom.terms import Times
from tests.mill import Mill
from tests.mill import plain_meaning
from tests.samples import one_let
from tests.samples import weave

SIXTY = 123456789012345678901234567890123456789012345678901234567891
# Of the samples: x is 4 long, y 3, k 2, m 5; the table a has the axis x, g the axes x and y, n none; the let is b.
A = [3, 1, 4, 1]
G = [0, 1, 2, 3, 4, 5, 6, 7, 8, 9, 1, 1]
TABLES = {"a": A, "g": G, "n": [7]}
HERE = Read("a", [("x", 0)])


def good():
    return copy.deepcopy(TABLES)


class Tables(unittest.TestCase):
    def setUp(self):
        self.program = one_let(Plus(HERE, Read("n", [])))

    def refused(self, tables, program=None):
        program = program or self.program
        for again in range(2):
            with self.assertRaises(NoTable) as taken:
                meaning(program, tables)
            self.assertIs(type(taken.exception), NoTable)

    def test_good_ones(self):
        self.assertEqual(meaning(self.program, good()), {"a": A, "g": G, "n": [7], "b": [0, 8, 1, 8]})

    def test_by_their_names_as_arguments(self):
        self.assertEqual(meaning(program=self.program, tables=good())["b"], [0, 8, 1, 8])

    def test_in_another_order(self):
        tables = {"n": [7], "g": G, "a": A}
        self.assertEqual(meaning(self.program, tables), meaning(self.program, good()))

    def test_a_name_too_few(self):
        for name in TABLES:
            tables = good()
            tables.pop(name)
            self.refused(tables)
        self.refused({})

    def test_a_name_too_many(self):
        for name in ("q", "x", "k", "b", "", "A", "if"):
            for numbers in (A, [7], []):
                self.refused({**good(), name: list(numbers)})

    def test_another_name_in_the_place_of_one(self):
        for away in TABLES:
            for name in ("q", "x", "b", "A"):
                tables = good()
                tables[name] = tables.pop(away)
                self.refused(tables)

    def test_lists_of_another_length(self):
        for name, numbers in TABLES.items():
            for other in ([], numbers[:-1], numbers[1:], numbers + [0], numbers + numbers):
                self.refused({**good(), name: list(other)})

    def test_a_length_of_another_table(self):
        self.refused({"a": G, "g": A, "n": [7]})
        self.refused({"a": A, "g": [7], "n": G})
        # As many numbers as before all together, but not in each.
        self.refused({"a": A[:-1], "g": G + [1], "n": [7]})
        self.refused({"a": A, "g": G + [7], "n": []})

    def test_one_length_of_two_in_the_place_of_all_cells(self):
        for length in (4, 3, 7):
            self.refused({**good(), "g": [1] * length})

    def test_good_tables_asked_behind_a_refusal(self):
        wanted = meaning(self.program, good())
        tables = good()
        numbers = tables.pop("g")
        self.refused(tables)
        tables["g"] = numbers
        self.assertEqual(meaning(self.program, tables), wanted)
        tables["a"].append(5)
        self.refused(tables)
        tables["a"].pop()
        self.assertEqual(meaning(self.program, tables), wanted)

    def test_a_refusal_changes_nothing_that_was_handed_in(self):
        for tables in ({}, {**good(), "q": [1]}, {**good(), "a": [1]}, {**good(), "g": []}):
            kept = copy.deepcopy(tables)
            self.refused(tables)
            self.assertEqual(tables, kept)

    def test_numbers_are_their_remainders_by_the_wheel(self):
        self.assertEqual(len(str(SIXTY)), 60)
        tables = {**good(), "a": [SIXTY, -SIXTY, -1, 10], "n": [-SIXTY]}
        told = meaning(self.program, tables)
        self.assertEqual(told["a"], [1, 9, 9, 0])
        self.assertEqual(told["n"], [9])
        self.assertEqual(told["b"], [0, 8, 8, 9])

    def test_a_wheel_of_thirty_figures(self):
        wheel = 987654321098765432109876543210
        program = Program(wheel, [("x", 2)], [("a", ["x"])], [Let("b", ["x"], Times(HERE, HERE))], ["b"])
        told = meaning(program, {"a": [SIXTY, wheel - 1]})
        self.assertEqual(told, {"a": [SIXTY % wheel, wheel - 1], "b": [SIXTY * SIXTY % wheel, 1]})

    def test_the_least_wheel(self):
        program = Program(2, [("x", 4)], [("a", ["x"])], [Let("b", ["x"], Plus(HERE, HERE))], ["b"])
        self.assertEqual(meaning(program, {"a": A}), {"a": [1, 1, 0, 1], "b": [0, 0, 0, 0]})

    def test_a_table_without_axes(self):
        program = weave([Let("b", [], Read("n", []))], tables=[("n", [])])
        self.assertEqual(meaning(program, {"n": [25]}), {"n": [5], "b": [5]})
        self.refused({"n": []}, program)
        self.refused({"n": [1, 2]}, program)

    def test_a_program_without_tables(self):
        program = weave([Let("b", ["x"], Place("x"))], tables=[])
        self.assertEqual(meaning(program, {}), {"b": [0, 1, 2, 3]})
        self.refused({"a": A}, program)
        self.refused({"b": [0, 1, 2, 3]}, program)
        self.refused({"x": []}, program)

    def test_a_program_without_lets(self):
        self.assertEqual(meaning(weave(), good()), TABLES)

    def test_a_table_that_nothing_reads_is_looked_at_too(self):
        program = one_let(Number(1))
        tables = good()
        tables.pop("g")
        self.refused(tables, program)
        self.refused({**good(), "g": []}, program)

    def test_what_was_handed_in_stays(self):
        tables = {"a": [SIXTY, -1, 12, 10], "g": list(G), "n": [-7]}
        kept, lists = copy.deepcopy(tables), dict(tables)
        meaning(self.program, tables)
        self.assertEqual(tables, kept)
        self.assertEqual(list(tables), ["a", "g", "n"])
        for name in lists:
            self.assertIs(tables[name], lists[name])


class Meanings(unittest.TestCase):
    def check(self, term, wanted, axes=("x",)):
        program = one_let(term, axes)
        look(program)
        self.assertEqual(meaning(program, good()), {**TABLES, "b": wanted})

    def test_kinds(self):
        told = meaning(one_let(Minus(Number(0), HERE)), {**good(), "a": [SIXTY, -SIXTY, 10, 0]})
        self.assertIs(type(told), dict)
        self.assertEqual(sorted(told), ["a", "b", "g", "n"])
        for numbers in told.values():
            self.assertIs(type(numbers), list)
            for number in numbers:
                self.assertIs(type(number), int)
                self.assertIn(number, range(10))

    def test_number_and_place(self):
        self.check(Number(-1), [9, 9, 9, 9])
        self.check(Number(25), [5], [])
        self.check(Place("x"), [0, 1, 2, 3])
        self.check(Times(Place("x"), Place("x")), [0, 1, 4, 9])

    def test_pairs(self):
        self.check(Minus(HERE, Number(2)), [1, 9, 2, 9])
        self.check(Times(HERE, HERE), [9, 1, 6, 1])
        self.check(Plus(HERE, Number(8)), [1, 9, 2, 9])

    def test_row_order_by_the_own_axes(self):
        shown = Plus(Times(Number(3), Place("x")), Place("y"))
        self.check(shown, [0, 1, 2, 3, 4, 5, 6, 7, 8, 9, 0, 1], ["x", "y"])
        self.check(shown, [0, 3, 6, 9, 1, 4, 7, 0, 2, 5, 8, 1], ["y", "x"])

    def test_own_axes_in_another_order_than_a_table_s(self):
        read = Read("g", [("x", 0), ("y", 0)])
        self.check(read, G, ["x", "y"])
        self.check(read, [0, 3, 6, 9, 1, 4, 7, 1, 2, 5, 8, 1], ["y", "x"])

    def test_three_own_axes(self):
        term = Plus(Read("g", [("x", 0), ("y", 0)]), Place("k"))
        wanted = [(G[3 * x + y] + k) % 10 for k in range(2) for x in range(4) for y in range(3)]
        self.check(term, wanted, ["k", "x", "y"])

    def test_a_let_that_reads_itself(self):
        running = Plus(HERE, Guard("x", 1, 4, Read("b", [("x", -1)]), Number(0)))
        self.check(running, [3, 4, 8, 9])
        self.check(Guard("x", 0, 2, Number(1), Plus(Read("b", [("x", -1)]), Read("b", [("x", -2)]))), [1, 1, 2, 3])
        self.check(Guard("x", 0, 1, Number(5), Read("b", [("", 0)])), [5, 5, 5, 5])

    def test_back_at_one_axis_where_the_other_goes_forward(self):
        # b at (x, y) is b at (x - 1, y + 1), and one more; else 1.
        back = Guard("x", 1, 4, Guard("y", 0, 2, Read("b", [("x", -1), ("y", 1)]), Number(0)), Number(0))
        self.check(Plus(back, Number(1)), [1, 1, 1, 2, 2, 1, 3, 2, 1, 3, 2, 1], ["x", "y"])

    def test_back_at_the_last_axis(self):
        back = Guard("y", 1, 3, Read("b", [("x", 0), ("y", -1)]), Place("x"))
        self.check(Plus(back, Number(1)), [1, 2, 3, 2, 3, 4, 3, 4, 5, 4, 5, 6], ["x", "y"])
        self.check(Guard("y", 1, 3, Plus(Read("b", [("x", 0), ("y", -1)]), Number(1)), Place("x")),
                   [0, 1, 2, 1, 2, 3, 2, 3, 4, 3, 4, 5], ["x", "y"])

    def test_itself_within_a_sum_at_the_top(self):
        # Twice the cell ahead: the sum over k has two turns.
        self.check(Sum("k", Guard("x", 1, 4, Read("b", [("x", -1)]), Number(3))), [6, 2, 4, 8])
        # The sum goes over the cells ahead themselves.
        ahead = Guard("x", 3, 4, Guard("y", 0, 3, Read("b", [("y", 0)]), Number(0)), Number(1))
        self.check(Sum("y", ahead), [3, 3, 3, 9])

    def test_lets_that_read_lets_ahead(self):
        lets = [Let("b", ["x"], Plus(HERE, Number(1))), Let("c", [], Sum("x", Read("b", [("x", 0)]))),
                Let("d", ["y"], Plus(Times(Read("c", []), Place("y")), Read("b", [("y", 1)])))]
        program = weave(lets)
        look(program)
        self.assertEqual(meaning(program, good()), {**TABLES, "b": [4, 2, 5, 2], "c": [3], "d": [2, 8, 8]})

    def test_outs_do_not_matter(self):
        lets = [Let("b", ["x"], HERE), Let("c", [], Number(1))]
        for outs in (["b"], ["a"], ["c", "n"]):
            self.assertEqual(meaning(weave(lets, outs=outs), good()), {**TABLES, "b": A, "c": [1]})

    def test_sums_at_the_top(self):
        self.check(Sum("x", HERE), [9], [])
        self.check(Sum("y", Read("g", [("x", 0), ("y", 0)])), [3, 2, 1, 1])
        self.check(Sum("x", Sum("y", Read("g", [("x", 0), ("y", 0)]))), [7], [])
        self.check(Sum("k", Number(7)), [4, 4, 4, 4])

    def test_sums_further_in(self):
        self.check(Times(HERE, Sum("y", Read("g", [("x", 0), ("y", 0)]))), [9, 2, 4, 1])
        self.check(Minus(Sum("m", Number(1)), Sum("k", Place("k"))), [4], [])
        self.check(Sum("k", Times(Place("k"), Sum("y", Place("y")))), [3], [])
        self.check(Guard("x", 1, 3, Sum("y", Read("g", [("x", 1), ("y", 0)])), Sum("k", Number(-1))), [8, 1, 1, 8])

    def test_guards_that_keep_a_read_within_the_rims(self):
        self.check(Guard("x", 0, 3, Read("a", [("x", 1)]), Number(0)), [1, 4, 1, 0])
        self.check(Guard("x", 3, 9, Number(0), Read("a", [("x", 1)])), [1, 4, 1, 0])
        self.check(Guard("x", -5, 1, Number(0), Read("a", [("x", -1)])), [0, 3, 1, 4])
        self.check(Sum("m", Guard("m", 0, 4, Read("a", [("m", 0)]), Number(1))), [0], [])
        self.check(Plus(Number(1), Sum("m", Guard("m", 4, 5, Number(0), Read("a", [("m", 0)])))), [0], [])

    def test_a_branch_that_is_never_looked_at(self):
        self.check(Guard("x", 0, 4, HERE, Read("a", [("x", 100)])), A)
        self.check(Guard("x", 2, 2, Read("b", [("x", 0)]), HERE), A)

    def test_numbers_are_kept_below_the_wheel_from_cell_to_cell(self):
        program = Program(10, [("x", 60)], [], [Let("b", ["x"], Guard("x", 0, 1, Number(3), Times(
            Read("b", [("x", -1)]), Read("b", [("x", -1)]))))], ["b"])
        self.assertEqual(meaning(program, {}), {"b": ([3, 9] + [1] * 58)})

    def test_a_program_without_axes(self):
        program = Program(10, [], [("n", [])], [Let("b", [], Plus(Read("n", []), Number(5)))], ["b"])
        self.assertEqual(meaning(program, {"n": [-1]}), {"n": [9], "b": [4]})

    def test_as_much_work_as_there_may_be(self):
        term = Guard("x", 1, 50, Read("b", [("x", -1), ("y", 0)]), Place("y"))
        program = Program(1000, [("x", 50), ("y", 20)], [], [Let("b", ["x", "y"], term)], ["b"])
        look(program)
        self.assertEqual(meaning(program, {})["b"], list(range(20)) * 50)
        program = Program(1000, [("x", 50), ("y", 40)], [], [
            Let("c", ["x", "y"], Place("y")), Let("d", ["y", "x"], Read("c", [("x", 0), ("y", 0)]))], ["d"])
        self.assertEqual(work_of(program), 4000)
        look(program)
        self.assertEqual(meaning(program, {})["d"], [y for y in range(40) for x in range(50)])

    def test_one_term_object_in_two_lets(self):
        shared = Sum("y", Read("g", [("x", 0), ("y", 0)]))
        program = weave([Let("b", ["x"], shared), Let("c", [], Sum("x", Plus(shared, shared)))])
        self.assertEqual(meaning(program, good()), {**TABLES, "b": [3, 2, 1, 1], "c": [4]})

    def test_the_asker_changes_what_was_told(self):
        program = one_let(HERE)
        tables = good()
        told = meaning(program, tables)
        told["a"][0] = 99
        told["b"].append(5)
        told["g"].clear()
        told.pop("n")
        told["q"] = []
        self.assertEqual(tables, TABLES)
        self.assertEqual(meaning(program, tables), {**TABLES, "b": A})

    def test_tables_that_are_changed_later(self):
        program = one_let(HERE)
        tables = good()
        told = meaning(program, tables)
        tables["a"][0] = 9
        self.assertEqual(meaning(program, tables)["b"], [9, 1, 4, 1])
        tables.clear()
        self.assertEqual(told, {**TABLES, "b": A})

    def test_two_programs_asked_in_turn(self):
        first, second = one_let(HERE), one_let(Plus(HERE, Number(1)))
        third = Program(3, [("x", 2)], [("a", ["x"])], [Let("b", ["x"], HERE)], ["b"])
        for again in range(2):
            self.assertEqual(meaning(first, good())["b"], A)
            self.assertEqual(meaning(second, good())["b"], [4, 2, 5, 2])
            self.assertEqual(meaning(third, {"a": [5, 6]}), {"a": [2, 0], "b": [2, 0]})

    def test_two_tables_asked_in_turn(self):
        program = one_let(HERE)
        for again in range(2):
            self.assertEqual(meaning(program, good())["b"], A)
            self.assertEqual(meaning(program, {**good(), "a": [0, 0, 0, 5]})["b"], [0, 0, 0, 5])

    def test_the_program_stays(self):
        program = one_let(Plus(HERE, Sum("k", Place("k"))))
        words = program.lets[0].term.words()
        meaning(program, good())
        self.assertEqual(program.lets[0].term.words(), words)
        self.assertEqual((program.axes, program.tables), (weave().axes, weave().tables))

    def test_many_programs_against_a_plain_walk(self):
        mill = Mill(17)
        for again in range(400):
            program = mill.program()
            look(program)
            tables = mill.tables(program)
            self.assertEqual(meaning(program, tables), plain_meaning(program, tables))


if __name__ == "__main__":
    unittest.main()
