import unittest

from arrayloom.lifting import cloth_of
from arrayloom.lines import Cloth
from arrayloom.lines import Line
from arrayloom.needs import needs_of
from arrayloom.needs import read_by
from arrayloom.needs import written_by
from arrayloom.programs import Let
from arrayloom.programs import Program
from arrayloom.steps import first_order
from arrayloom.terms import Guard
from arrayloom.terms import Minus
from arrayloom.terms import Number
from arrayloom.terms import Place
from arrayloom.terms import Plus
from arrayloom.terms import Read
from arrayloom.terms import Sum
from arrayloom.terms import Times
from tests.mill import Mill
from tests.mill import plain_needs
from tests.mill import plain_order
from tests.mill import plain_reads
from tests.samples import LENGTHS
from tests.samples import cloth_with

ONE = Number(1)
TABLES = {"a": ["x"], "g": ["x", "y"], "n": []}


def read(array, *indexes):
    return Read(array, list(indexes))


class ReadBy(unittest.TestCase):
    def check(self, cloth, step, wanted):
        for again in range(2):
            self.assertEqual(read_by(cloth, step), wanted)
        self.assertEqual(read_by(cloth=cloth, step=step), wanted)
        self.assertEqual(plain_reads(cloth, step), wanted)

    def test_a_set(self):
        cloth = cloth_with(Line("b", ["x"], [], read("a", ("x", 0))), tables=TABLES)
        self.check(cloth, (0, "set", (0,), ()), [("a", (0,))])
        self.check(cloth, (0, "set", (1,), ()), [("a", (1,))])

    def test_a_start_reads_nothing(self):
        cloth = cloth_with(Line("b", ["x"], ["y"], read("g", ("x", 0), ("y", 0))), tables=TABLES)
        for cell in ((0,), (1,)):
            self.check(cloth, (0, "start", cell, ()), [])
        # Also where the term asks for none of the sums.
        self.check(cloth_with(Line("b", [], ["y"], read("n")), tables=TABLES), (0, "start", (), ()), [])

    def test_an_add(self):
        cloth = cloth_with(Line("b", ["x"], ["y"], read("g", ("x", 0), ("y", 0))), tables=TABLES)
        self.check(cloth, (0, "add", (0,), (2,)), [("g", (0, 2))])
        self.check(cloth, (0, "add", (1,), (0,)), [("g", (1, 0))])

    def test_a_line_that_reads_nothing(self):
        self.check(cloth_with(Line("b", ["x"], [], Plus(Place("x"), ONE))), (0, "set", (1,), ()), [])
        self.check(cloth_with(Line("b", [], ["x"], Place("x"))), (0, "add", (), (1,)), [])

    def test_without_axes(self):
        self.check(cloth_with(Line("b", [], [], read("n")), tables=TABLES), (0, "set", (), ()), [("n", ())])

    def test_own_axes_and_sums_in_another_order_than_the_lengths(self):
        # The lengths stand as x, y, k, m, p.
        term = Plus(read("t", ("x", 0), ("y", 0)), read("u", ("k", 0), ("m", 0), ("x", 0)))
        cloth = cloth_with(Line("b", ["m", "y"], ["k", "x"], term), tables={"t": ["x", "y"], "u": ["k", "m", "x"]})
        self.check(cloth, (0, "add", (0, 2), (1, 0)), [("t", (0, 2)), ("u", (1, 0, 0))])
        self.check(cloth, (0, "add", (0, 1), (0, 1)), [("t", (1, 1)), ("u", (0, 0, 1))])
        cloth = cloth_with(Line("b", ["y", "x"], [], read("g", ("x", 0), ("y", 0))), tables=TABLES)
        self.check(cloth, (0, "set", (2, 1), ()), [("g", (1, 2))])

    def test_the_step_tells_the_line(self):
        lines = [Line(name, ["x"], [], read(array, ("x", 0))) for name, array in (("b", "a"), ("c", "b"), ("d", "c"))]
        cloth = cloth_with(*lines, tables=TABLES)
        for number, array in enumerate("abc"):
            self.check(cloth, (number, "set", (1,), ()), [(array, (1,))])

    def test_shifts(self):
        term = Guard("x", 1, 2, read("a", ("x", -1)), read("a", ("x", 1)))
        cloth = cloth_with(Line("b", ["x"], [], term), tables=TABLES)
        self.check(cloth, (0, "set", (0,), ()), [("a", (1,))])
        self.check(cloth, (0, "set", (1,), ()), [("a", (0,))])

    def test_indexes_without_an_axis(self):
        term = Plus(read("a", ("", 1)), read("g", ("", 0), ("y", 0)))
        cloth = cloth_with(Line("b", ["y"], [], term), tables=TABLES)
        self.check(cloth, (0, "set", (2,), ()), [("a", (1,)), ("g", (0, 2))])
        cloth = cloth_with(Line("b", [], [], read("g", ("", 1), ("", 2))), tables=TABLES)
        self.check(cloth, (0, "set", (), ()), [("g", (1, 2))])

    def test_in_the_order_of_writing(self):
        right = Plus(read("a", ("", 0)), Times(ONE, read("g", ("", 0), ("", 0))))
        term = Minus(Times(read("a", ("", 1)), read("n")), right)
        self.check(cloth_with(Line("b", [], [], term), tables=TABLES), (0, "set", (), ()),
                   [("a", (1,)), ("n", ()), ("a", (0,)), ("g", (0, 0))])

    def test_one_cell_read_twice(self):
        once = read("a", ("x", 0))
        cloth = cloth_with(Line("b", ["x"], [], Plus(once, Plus(read("n"), once))), tables=TABLES)
        self.check(cloth, (0, "set", (1,), ()), [("a", (1,)), ("n", ()), ("a", (1,))])
        cloth = cloth_with(Line("b", ["x"], [], Plus(once, read("a", ("", 1)))), tables=TABLES)
        self.check(cloth, (0, "set", (1,), ()), [("a", (1,)), ("a", (1,))])

    def test_guards_from_either_side(self):
        term = Guard("y", 1, 2, read("a", ("", 0)), read("a", ("", 1)))
        own = cloth_with(Line("b", ["y"], [], term), tables=TABLES)
        summed = cloth_with(Line("b", [], ["y"], term), tables=TABLES)
        for number, wanted in ((0, 1), (1, 0), (2, 1)):
            self.check(own, (0, "set", (number,), ()), [("a", (wanted,))])
            self.check(summed, (0, "add", (), (number,)), [("a", (wanted,))])

    def test_guards_within_guards(self):
        inside = Guard("k", 0, 1, read("n"), Plus(read("a", ("x", 0)), read("n")))
        cloth = cloth_with(Line("b", ["x"], ["k"], Guard("x", 1, 9, inside, ONE)), tables=TABLES)
        self.check(cloth, (0, "add", (0,), (0,)), [])
        self.check(cloth, (0, "add", (0,), (1,)), [])
        self.check(cloth, (0, "add", (1,), (0,)), [("n", ())])
        self.check(cloth, (0, "add", (1,), (1,)), [("a", (1,)), ("n", ())])

    def test_a_line_that_reads_itself(self):
        cloth = cloth_with(Line("b", ["y"], [], Guard("y", 1, 3, read("b", ("y", -1)), ONE)))
        self.check(cloth, (0, "set", (0,), ()), [])
        self.check(cloth, (0, "set", (2,), ()), [("b", (1,))])

    def test_kinds(self):
        cloth = cloth_with(Line("b", ["x"], [], Plus(read("a", ("x", 0)), read("n"))), tables=TABLES)
        told = read_by(cloth, (0, "set", (1,), ()))
        self.assertIs(type(told), list)
        for member in told:
            self.assertEqual([type(member), type(member[0]), type(member[1])], [tuple, str, tuple])

    def test_the_asker_changes_what_was_told(self):
        for term in (read("a", ("x", 0)), Plus(read("n"), read("n")), ONE, Guard("x", 0, 9, read("n"), ONE)):
            cloth = cloth_with(Line("b", ["x"], ["k"], term), tables=TABLES)
            for step in ((0, "add", (1,), (0,)), (0, "start", (1,), ())):
                told = read_by(cloth, step)
                kept = list(told)
                told.append(("q", ()))
                self.check(cloth, step, kept)
                told.clear()
                self.check(cloth, step, kept)

    def test_the_cloth_stays(self):
        cloth = cloth_with(Line("b", ["x"], ["k"], read("a", ("x", 0))), tables=TABLES)
        for step in first_order(cloth):
            read_by(cloth, step)
            written_by(cloth, step)
        needs_of(cloth)
        self.assertEqual((cloth.lengths, cloth.arrays), (LENGTHS, {**TABLES, "b": ["x"]}))
        self.assertEqual((cloth.lines[0].axes, cloth.lines[0].sums), (["x"], ["k"]))

    def test_as_deep_and_as_many_parts_as_told(self):
        term = read("a", ("x", 0))
        for again in range(39):
            term = Plus(term, read("n"))
        cloth = cloth_with(Line("b", ["x"], [], term), tables=TABLES)
        self.check(cloth, (0, "set", (1,), ()), [("a", (1,))] + [("n", ())] * 39)
        term = read("n")
        for again in range(8):
            term = Plus(term, term)
        self.check(cloth_with(Line("b", [], [], term), tables=TABLES), (0, "set", (), ()), [("n", ())] * 256)

    def test_many_cloths_against_a_plain_walk(self):
        mill = Mill(59)
        for again in range(120):
            for cloth in (cloth_of(mill.program()), mill.cloth()):
                for step in plain_order(cloth):
                    self.assertEqual(read_by(cloth, step), plain_reads(cloth, step))


class WrittenBy(unittest.TestCase):
    def check(self, cloth, step, wanted):
        self.assertEqual(written_by(cloth, step), wanted)
        self.assertEqual(written_by(cloth=cloth, step=step), wanted)
        self.assertEqual([type(member) for member in written_by(cloth, step)], [str, tuple])
        self.assertIs(type(written_by(cloth, step)), tuple)

    def test_a_set(self):
        cloth = cloth_with(Line("b", ["x", "y"], [], read("a", ("x", 0))), tables=TABLES)
        self.check(cloth, (0, "set", (1, 2), ()), ("b", (1, 2)))

    def test_a_start_and_an_add(self):
        cloth = cloth_with(Line("b", ["x"], ["y", "k"], ONE))
        self.check(cloth, (0, "start", (1,), ()), ("b", (1,)))
        self.check(cloth, (0, "add", (1,), (2, 0)), ("b", (1,)))
        self.check(cloth, (0, "add", (0,), (1, 1)), ("b", (0,)))

    def test_without_axes(self):
        self.check(cloth_with(Line("b", [], [], ONE)), (0, "set", (), ()), ("b", ()))
        self.check(cloth_with(Line("b", [], ["k"], ONE)), (0, "add", (), (1,)), ("b", ()))

    def test_the_step_tells_the_line(self):
        cloth = cloth_with(Line("b", ["x"], [], ONE), Line("s0", ["x"], [], ONE), Line("c", [], [], ONE), tables=TABLES)
        self.check(cloth, (0, "set", (1,), ()), ("b", (1,)))
        self.check(cloth, (1, "set", (1,), ()), ("s0", (1,)))
        self.check(cloth, (2, "set", (), ()), ("c", ()))


class NeedsOf(unittest.TestCase):
    def check(self, cloth, wanted):
        for again in range(2):
            self.assertEqual(needs_of(cloth), wanted)
        self.assertEqual(needs_of(cloth=cloth), wanted)
        self.assertEqual(plain_needs(cloth), wanted)

    def test_a_cloth_without_lines(self):
        self.check(Cloth(10, {"x": 2}, {"a": ["x"]}, ["a"], [], ["a"]), [])

    def test_reads_of_tables_need_nothing(self):
        term = Plus(read("a", ("x", 0)), Times(read("n"), read("g", ("x", 0), ("", 2))))
        self.check(cloth_with(Line("b", ["x"], [], term), Line("c", ["x"], [], term), tables=TABLES), [])

    def test_lines_that_read_nothing(self):
        self.check(cloth_with(Line("b", ["x"], [], ONE), Line("c", ["x"], [], Place("x"))), [])

    def test_one_line_reads_another(self):
        lines = [Line("b", ["y"], [], ONE), Line("c", ["y"], [], read("b", ("y", 0)))]
        self.check(cloth_with(*lines), [(0, 3), (1, 4), (2, 5)])

    def test_sorted_by_the_one_that_is_needed(self):
        # The cells of c read those of b from the last to the first.
        back = Guard("y", 0, 1, read("b", ("", 2)), Guard("y", 1, 2, read("b", ("", 1)), read("b", ("", 0))))
        self.check(cloth_with(Line("b", ["y"], [], ONE), Line("c", ["y"], [], back)), [(0, 5), (1, 4), (2, 3)])
        both = Plus(read("b", ("", 1)), read("b", ("", 0)))
        self.check(cloth_with(Line("b", ["x"], [], ONE), Line("c", ["x"], [], both)), [(0, 2), (0, 3), (1, 2), (1, 3)])

    def test_one_cell_read_twice_is_one_need(self):
        once = read("b", ("x", 0))
        lines = [Line("b", ["x"], [], ONE), Line("c", ["x"], [], Plus(once, Times(once, read("b", ("x", 0)))))]
        self.check(cloth_with(*lines), [(0, 2), (1, 3)])

    def test_adds_need_their_start_and_not_one_another(self):
        self.check(cloth_with(Line("b", [], ["y"], ONE)), [(0, 1), (0, 2), (0, 3)])
        self.check(cloth_with(Line("b", ["x"], ["k"], ONE)), [(0, 1), (0, 2), (3, 4), (3, 5)])
        self.check(cloth_with(Line("b", [], ["m", "p"], ONE)), [(0, 1)])

    def test_adds_do_not_need_the_start_of_another_line(self):
        self.check(cloth_with(Line("b", [], ["k"], ONE), Line("c", [], ["k"], ONE)), [(0, 1), (0, 2), (3, 4), (3, 5)])

    def test_a_read_of_a_line_with_sums_needs_its_start_and_all_its_adds(self):
        lines = [Line("b", [], ["y"], ONE), Line("c", [], [], read("b"))]
        self.check(cloth_with(*lines), [(0, 1), (0, 2), (0, 3), (0, 4), (1, 4), (2, 4), (3, 4)])

    def test_a_read_of_one_cell_of_a_line_with_sums(self):
        lines = [Line("b", ["x"], ["k"], ONE), Line("c", [], [], read("b", ("", 1)))]
        self.check(cloth_with(*lines), [(0, 1), (0, 2), (3, 4), (3, 5), (3, 6), (4, 6), (5, 6)])

    def test_adds_that_read_need_what_they_read_and_the_start_does_not(self):
        lines = [Line("b", ["x"], [], ONE), Line("c", [], ["x"], read("b", ("x", 0)))]
        self.check(cloth_with(*lines), [(0, 3), (1, 4), (2, 3), (2, 4)])

    def test_adds_that_read_a_line_with_sums(self):
        lines = [Line("b", [], ["k"], ONE), Line("c", [], ["k"], read("b"))]
        self.check(cloth_with(*lines), [(0, 1), (0, 2), (0, 4), (0, 5), (1, 4), (1, 5), (2, 4), (2, 5), (3, 4), (3, 5)])

    def test_a_line_that_reads_itself(self):
        running = Guard("y", 1, 3, read("b", ("y", -1)), ONE)
        self.check(cloth_with(Line("b", ["y"], [], running)), [(0, 1), (1, 2)])
        two_back = Guard("y", 2, 3, read("b", ("y", -2)), ONE)
        self.check(cloth_with(Line("b", ["y"], [], two_back)), [(0, 2)])

    def test_a_line_with_sums_that_reads_itself(self):
        running = Guard("x", 1, 2, read("b", ("x", -1)), ONE)
        self.check(cloth_with(Line("b", ["x"], ["k"], running)),
                   [(0, 1), (0, 2), (0, 4), (0, 5), (1, 4), (1, 5), (2, 4), (2, 5), (3, 4), (3, 5)])

    def test_the_other_side_of_a_guard_is_not_needed(self):
        lines = [Line("b", ["x"], [], ONE), Line("c", ["x"], [], Guard("x", 0, 1, read("b", ("x", 0)), ONE))]
        self.check(cloth_with(*lines), [(0, 2)])
        lines[1] = Line("c", ["x"], [], Guard("x", 0, 1, ONE, read("b", ("x", 0))))
        self.check(cloth_with(*lines), [(1, 3)])
        lines[1] = Line("c", ["x"], [], Guard("x", 5, 5, read("b", ("x", 9)), ONE))
        self.check(cloth_with(*lines), [])

    def test_lines_further_on_are_not_needed_for_their_names_alone(self):
        lines = [Line("b", [], [], ONE), Line("c", [], [], read("b")), Line("d", [], [], read("b"))]
        self.check(cloth_with(*lines), [(0, 1), (0, 2)])

    def test_no_need_through_another_step(self):
        lines = [Line("b", [], [], ONE), Line("c", [], [], read("b")), Line("d", [], [], read("c"))]
        self.check(cloth_with(*lines), [(0, 1), (1, 2)])

    def test_of_a_program(self):
        whole = Plus(Read("a", [("x", 0)]), Sum("k", Read("a", [("k", 0)])))
        cloth = cloth_of(Program(10, [("x", 2), ("k", 2)], [("a", ["x"])], [Let("b", ["x"], whole)], ["b"]))
        self.check(cloth, [(0, 1), (0, 2), (0, 3), (0, 4), (1, 3), (1, 4), (2, 3), (2, 4)])

    def test_kinds(self):
        needs = needs_of(cloth_with(Line("b", ["x"], ["k"], ONE)))
        self.assertIs(type(needs), list)
        for need in needs:
            self.assertEqual([type(need), type(need[0]), type(need[1])], [tuple, int, int])

    def test_the_asker_changes_what_was_told(self):
        cloth = cloth_with(Line("b", ["x"], ["k"], ONE))
        needs = needs_of(cloth)
        kept = list(needs)
        needs.reverse()
        needs.append((9, 9))
        self.check(cloth, kept)
        needs.clear()
        self.check(cloth, kept)

    def test_two_cloths_asked_in_turn(self):
        first, second = cloth_with(Line("b", [], ["k"], ONE)), cloth_with(Line("b", [], ["m"], ONE))
        for again in range(2):
            self.check(first, [(0, 1), (0, 2)])
            self.check(second, [(0, 1)])

    def test_many_needs(self):
        # Each add of c needs its start, and the start and the 50 adds of one cell of b.
        lines = [Line("b", ["x"], ["k"], ONE), Line("c", [], ["x"], read("b", ("x", 0)))]
        needs = needs_of(cloth_with(*lines, lengths={"x": 60, "k": 50}))
        self.assertEqual(len(needs), 60 * 50 + 60 * 51 + 60)
        # Each cell of c needs the start and the 1000 adds of the one cell of b: nearly as many as are promised.
        lines = [Line("b", [], ["k", "x"], ONE), Line("c", ["y", "z"], [], Plus(read("b"), read("b")))]
        needs = needs_of(cloth_with(*lines, lengths={"x": 20, "k": 50, "y": 13, "z": 15}))
        self.assertEqual(len(needs), 1000 + 1001 * 195)
        self.assertEqual((needs[0], needs[-1]), ((0, 1), (1000, 1195)))
        self.assertEqual(needs, sorted(set(needs)))

    def test_many_cloths_against_a_plain_walk(self):
        mill = Mill(61)
        some = 0
        for again in range(100):
            for cloth in (cloth_of(mill.program()), mill.cloth(), mill.grid()):
                if len(plain_order(cloth)) <= 150:
                    needs = needs_of(cloth)
                    self.assertEqual(needs, plain_needs(cloth))
                    some = some + (len(needs) > 0)
        # A look at the mill itself.
        self.assertGreater(some, 50)


if __name__ == "__main__":
    unittest.main()
