import copy
import unittest

from arrayloom.lifting import cloth_of
from arrayloom.lines import Cloth
from arrayloom.lines import Line
from arrayloom.programs import Let
from arrayloom.programs import Program
from arrayloom.steps import first_order
from arrayloom.steps import steps_of
from arrayloom.terms import Guard
from arrayloom.terms import Number
from arrayloom.terms import Place
from arrayloom.terms import Plus
from arrayloom.terms import Read
from arrayloom.terms import Sum
from tests.mill import Mill
from tests.mill import plain_order
from tests.mill import plain_steps
from tests.samples import LENGTHS
from tests.samples import cloth_with
from tests.samples import cut_loop
from tests.samples import deed
from tests.samples import loop
from tests.samples import one_let

ONE = Number(1)


class FirstOrder(unittest.TestCase):
    def check(self, cloth, wanted):
        self.assertEqual(first_order(cloth), wanted)
        self.assertEqual(first_order(cloth=cloth), wanted)

    def test_a_line_without_sums(self):
        self.check(cloth_with(Line("b", ["y"], [], Place("y"))),
                   [(0, "set", (0,), ()), (0, "set", (1,), ()), (0, "set", (2,), ())])

    def test_a_line_without_sums_and_without_axes(self):
        self.check(cloth_with(Line("b", [], [], ONE)), [(0, "set", (), ())])

    def test_a_line_with_a_sum(self):
        self.check(cloth_with(Line("b", ["x"], ["y"], ONE)), [
            (0, "start", (0,), ()), (0, "add", (0,), (0,)), (0, "add", (0,), (1,)), (0, "add", (0,), (2,)),
            (0, "start", (1,), ()), (0, "add", (1,), (0,)), (0, "add", (1,), (1,)), (0, "add", (1,), (2,))])

    def test_a_line_with_a_sum_and_without_axes(self):
        self.check(cloth_with(Line("b", [], ["x"], ONE)),
                   [(0, "start", (), ()), (0, "add", (), (0,)), (0, "add", (), (1,))])

    def test_a_sum_of_one_turn(self):
        self.check(cloth_with(Line("b", ["m"], ["p"], ONE)), [(0, "start", (0,), ()), (0, "add", (0,), (0,))])
        self.check(cloth_with(Line("b", [], ["m"], ONE)), [(0, "start", (), ()), (0, "add", (), (0,))])

    def test_several_sums_in_row_order_from_the_outermost_in(self):
        self.check(cloth_with(Line("b", [], ["x", "y"], ONE)), [(0, "start", (), ())] + [
            (0, "add", (), turn) for turn in [(0, 0), (0, 1), (0, 2), (1, 0), (1, 1), (1, 2)]])
        self.check(cloth_with(Line("b", [], ["y", "x"], ONE)), [(0, "start", (), ())] + [
            (0, "add", (), turn) for turn in [(0, 0), (0, 1), (1, 0), (1, 1), (2, 0), (2, 1)]])

    def test_several_own_axes_in_row_order(self):
        self.check(cloth_with(Line("b", ["y", "x"], [], ONE)),
                   [(0, "set", cell, ()) for cell in [(0, 0), (0, 1), (1, 0), (1, 1), (2, 0), (2, 1)]])

    def test_own_axes_and_sums(self):
        steps = []
        for cell in ((0, 0), (0, 1), (1, 0), (1, 1)):
            steps.append((0, "start", cell, ()))
            steps.extend((0, "add", cell, turn) for turn in [(0, 0, 0), (0, 0, 1), (0, 0, 2)])
        self.check(cloth_with(Line("b", ["x", "k"], ["m", "p", "y"], ONE)), steps)

    def test_line_by_line(self):
        lines = [Line("b", ["x"], [], ONE), Line("s0", [], ["k"], ONE), Line("c", [], [], ONE),
                 Line("d", ["m"], [], ONE)]
        self.check(cloth_with(*lines), [
            (0, "set", (0,), ()), (0, "set", (1,), ()), (1, "start", (), ()), (1, "add", (), (0,)),
            (1, "add", (), (1,)), (2, "set", (), ()), (3, "set", (0,), ())])

    def test_numbers_are_of_lines_not_of_arrays(self):
        cloth = Cloth(10, {"x": 2}, {"a": ["x"], "n": [], "b": []}, ["a", "n"], [Line("b", [], [], ONE)], ["b"])
        self.check(cloth, [(0, "set", (), ())])

    def test_without_lines(self):
        self.check(Cloth(10, {"x": 2}, {"a": ["x"]}, ["a"], [], ["a"]), [])

    def test_the_term_and_the_outs_do_not_matter(self):
        ahead = Guard("x", 1, 2, Read("b", [("x", -1)]), ONE)
        for term in (ONE, Read("a", [("x", 0)]), ahead, Guard("x", 0, 0, ahead, ONE)):
            cloth = Cloth(10, {"x": 2}, {"a": ["x"], "b": ["x"]}, ["a"], [Line("b", ["x"], [], term)], ["a"])
            self.check(cloth, [(0, "set", (0,), ()), (0, "set", (1,), ())])

    def test_of_a_program(self):
        program = one_let(Plus(Sum("k", Place("k")), Place("x")))
        self.assertEqual(first_order(cloth_of(program)), [
            (0, "start", (), ()), (0, "add", (), (0,)), (0, "add", (), (1,)),
            (1, "set", (0,), ()), (1, "set", (1,), ()), (1, "set", (2,), ()), (1, "set", (3,), ())])

    def test_kinds(self):
        order = first_order(cloth_with(Line("b", ["x"], ["y"], ONE), Line("c", [], [], ONE)))
        self.assertIs(type(order), list)
        for step in order:
            self.assertIs(type(step), tuple)
            self.assertEqual([type(member) for member in step], [int, str, tuple, tuple])
            for number in step[2] + step[3]:
                self.assertIs(type(number), int)

    def test_the_asker_changes_what_was_told(self):
        cloth = cloth_with(Line("b", ["x"], ["k"], ONE))
        order = first_order(cloth)
        kept = list(order)
        order.reverse()
        order.append((9, "set", (), ()))
        self.check(cloth, kept)
        order.clear()
        self.check(cloth, kept)

    def test_the_cloth_stays(self):
        cloth = cloth_with(Line("b", ["x"], ["k"], ONE))
        first_order(cloth)
        self.assertEqual((cloth.lengths, cloth.arrays), (LENGTHS, {"b": ["x"]}))
        self.assertEqual((cloth.lines[0].axes, cloth.lines[0].sums), (["x"], ["k"]))

    def test_two_cloths_asked_in_turn(self):
        first, second = cloth_with(Line("b", ["x"], [], ONE)), cloth_with(Line("b", ["x"], [], ONE), lengths={"x": 1})
        for again in range(2):
            self.check(first, [(0, "set", (0,), ()), (0, "set", (1,), ())])
            self.check(second, [(0, "set", (0,), ())])

    def test_many_steps(self):
        cloth = cloth_with(Line("b", ["x"], ["y"], ONE), Line("c", ["y", "x"], [], ONE), lengths={"x": 40, "y": 49})
        order = first_order(cloth)
        self.assertEqual(len(order), 40 + 40 * 49 + 40 * 49)
        self.assertEqual(len(set(order)), len(order))
        self.assertEqual(order[1999], (0, "add", (39,), (48,)))
        self.assertEqual(order[2000], (1, "set", (0, 0), ()))
        self.assertEqual(order[-1], (1, "set", (48, 39), ()))

    def test_more_lines_than_a_program_has_lets(self):
        cloth = cloth_with(*[Line(f"s{number}", [], [], ONE) for number in range(40)])
        self.check(cloth, [(number, "set", (), ()) for number in range(40)])

    def test_many_cloths_against_a_plain_walk(self):
        mill = Mill(29)
        for again in range(200):
            cloth = cloth_of(mill.program())
            self.assertEqual(first_order(cloth), plain_order(cloth))
            cloth = mill.cloth()
            self.assertEqual(first_order(cloth), plain_order(cloth))


class StepsOfNests(unittest.TestCase):
    def check(self, nest, wanted):
        kept = copy.deepcopy(nest)
        for again in range(2):
            self.assertEqual(steps_of(nest), wanted)
        self.assertEqual(steps_of(nest=nest), wanted)
        self.assertEqual(nest, kept)
        self.assertEqual(plain_steps(nest), wanted)

    def test_a_nest_without_loops(self):
        self.check((0, ()), [])
        self.check((1, (deed(0, 0, "set"),)), [(0, "set", (), ())])
        self.check((3, (deed(2, 1, "set"), deed(0, 0, "start"), deed(1, 4, "set"))),
                   [(1, "set", (), ()), (0, "start", (), ()), (4, "set", (), ())])

    def test_one_loop(self):
        self.check((2, (loop(0, 3, deed(1, 0, "set", (0,))),)),
                   [(0, "set", (0,), ()), (0, "set", (1,), ()), (0, "set", (2,), ())])

    def test_a_loop_of_one_count(self):
        self.check((2, (loop(0, 1, deed(1, 0, "set", (0,))),)), [(0, "set", (0,), ())])

    def test_loops_within_loops(self):
        nest = (5, (loop(0, 2, loop(1, 3, deed(2, 0, "set", (0, 1)))),))
        self.check(nest, [(0, "set", cell, ()) for cell in [(0, 0), (0, 1), (0, 2), (1, 0), (1, 1), (1, 2)]])

    def test_the_nest_of_a_sum(self):
        nest = (4, (loop(0, 2, deed(1, 0, "start", (0,)), loop(2, 2, deed(3, 0, "add", (0,), (2,)))),))
        self.check(nest, [(0, "start", (0,), ()), (0, "add", (0,), (0,)), (0, "add", (0,), (1,)),
                          (0, "start", (1,), ()), (0, "add", (1,), (0,)), (0, "add", (1,), (1,))])

    def test_several_nodes_in_one_body(self):
        nest = (8, (deed(0, 0, "set"), loop(1, 2, deed(2, 1, "set", (1,)), loop(3, 2, deed(4, 2, "set", (3, 1))),
                                            deed(5, 3, "set", (1,))), loop(6, 1, deed(7, 4, "set", (6,)))))
        self.check(nest, [(0, "set", (), ()),
                          (1, "set", (0,), ()), (2, "set", (0, 0), ()), (2, "set", (1, 0), ()), (3, "set", (0,), ()),
                          (1, "set", (1,), ()), (2, "set", (0, 1), ()), (2, "set", (1, 1), ()), (3, "set", (1,), ()),
                          (4, "set", (0,), ())])

    def test_cells_and_turns_in_another_order_than_the_loops(self):
        nest = (4, (loop(0, 2, loop(1, 1, loop(2, 2, deed(3, 5, "add", (2, 0), (1,))))),))
        self.check(nest, [(5, "add", (0, 0), (0,)), (5, "add", (1, 0), (0,)), (5, "add", (0, 1), (0,)),
                          (5, "add", (1, 1), (0,))])
        nest = (4, (loop(0, 2, loop(1, 3, deed(3, 5, "add", (), (1, 0)))),))
        self.check(nest, [(5, "add", (), turn) for turn in [(0, 0), (1, 0), (2, 0), (0, 1), (1, 1), (2, 1)]])

    def test_numbers_that_are_not_in_order(self):
        nest = (90, (loop(70, 2, deed(3, 0, "start", (70,)), loop(0, 2, deed(89, 0, "add", (70,), (0,)))),
                     loop(5, 2, deed(1, 1, "set", (5,)))))
        self.check(nest, [(0, "start", (0,), ()), (0, "add", (0,), (0,)), (0, "add", (0,), (1,)),
                          (0, "start", (1,), ()), (0, "add", (1,), (0,)), (0, "add", (1,), (1,)),
                          (1, "set", (0,), ()), (1, "set", (1,), ())])

    def test_a_loop_with_the_number_nought_as_outer(self):
        nest = (3, (loop(0, 2, cut_loop(2, 4, 2, 0, deed(1, 0, "set", (2,)))),))
        self.check(nest, [(0, "set", (count,), ()) for count in range(4)])

    def test_a_loop_that_counts_within_another(self):
        nest = (3, (loop(0, 3, cut_loop(1, 6, 2, 0, deed(2, 0, "set", (1, 0)))),))
        self.check(nest, [(0, "set", cell, ()) for cell in [(0, 0), (1, 0), (2, 1), (3, 1), (4, 2), (5, 2)]])

    def test_the_last_width_not_full(self):
        nest = (3, (loop(0, 3, cut_loop(1, 5, 2, 0, deed(2, 0, "set", (1, 0)))),))
        self.check(nest, [(0, "set", cell, ()) for cell in [(0, 0), (1, 0), (2, 1), (3, 1), (4, 2)]])

    def test_a_width_of_one(self):
        nest = (3, (loop(0, 3, cut_loop(1, 3, 1, 0, deed(2, 0, "set", (1, 0)))),))
        self.check(nest, [(0, "set", cell, ()) for cell in [(0, 0), (1, 1), (2, 2)]])

    def test_a_width_above_the_size(self):
        for width in (3, 4, 5, 10 ** 29):
            nest = (3, (loop(0, 1, cut_loop(1, 3, width, 0, deed(2, 0, "set", (1,)))),))
            self.check(nest, [(0, "set", (0,), ()), (0, "set", (1,), ()), (0, "set", (2,), ())])

    def test_tiles(self):
        # Four by three cells in tiles of two by two: the loops over the tiles stand outside.
        inside = cut_loop(2, 4, 2, 0, cut_loop(3, 3, 2, 1, deed(4, 0, "set", (2, 3))))
        self.check((5, (loop(0, 2, loop(1, 2, inside)),)), [(0, "set", cell, ()) for cell in [
            (0, 0), (0, 1), (1, 0), (1, 1), (0, 2), (1, 2), (2, 0), (2, 1), (3, 0), (3, 1), (2, 2), (3, 2)]])

    def test_loops_between_a_loop_and_the_one_that_counts_within_it(self):
        nest = (5, (loop(4, 2, loop(1, 2, cut_loop(0, 3, 2, 4, deed(2, 0, "set", (0, 1))))),))
        self.check(nest, [(0, "set", cell, ()) for cell in [(0, 0), (1, 0), (0, 1), (1, 1), (2, 0), (2, 1)]])

    def test_a_loop_within_one_that_counts_within_another(self):
        nest = (4, (loop(0, 2, cut_loop(1, 3, 2, 0, cut_loop(2, 5, 2, 1, deed(3, 0, "set", (2, 1, 0))))),))
        self.check(nest, [(0, "set", cell, ()) for cell in [
            (0, 0, 0), (1, 0, 0), (2, 1, 0), (3, 1, 0), (4, 2, 1)]])

    def test_two_loops_that_count_within_one(self):
        nest = (5, (loop(0, 2, cut_loop(1, 3, 2, 0, deed(2, 0, "set", (1,))), cut_loop(3, 4, 2, 0, deed(
            4, 1, "set", (3,)))),))
        self.check(nest, [(0, "set", (0,), ()), (0, "set", (1,), ()), (1, "set", (0,), ()), (1, "set", (1,), ()),
                          (0, "set", (2,), ()), (1, "set", (2,), ()), (1, "set", (3,), ())])

    def test_a_loop_named_twice_or_not_at_all(self):
        nest = (3, (loop(0, 2, loop(1, 2, deed(2, 0, "add", (1, 1), (1,)))),))
        self.check(nest, [(0, "add", (count, count), (count,)) for count in [0, 1, 0, 1]])

    def test_one_deed_in_two_loops_side_by_side(self):
        nest = (4, (loop(1, 2, deed(0, 0, "set", (1,))), loop(2, 2, deed(3, 0, "set", (2,)))))
        self.check(nest, [(0, "set", (0,), ()), (0, "set", (1,), ())] * 2)

    def test_kinds(self):
        nest = (4, (loop(0, 2, deed(1, 0, "start", (0,)), cut_loop(2, 2, 1, 0, deed(3, 0, "add", (0,), (2,)))),))
        steps = steps_of(nest)
        self.assertIs(type(steps), list)
        for step in steps:
            self.assertIs(type(step), tuple)
            self.assertEqual([type(member) for member in step], [int, str, tuple, tuple])

    def test_the_asker_changes_what_was_told(self):
        nest = (2, (loop(0, 3, deed(1, 0, "set", (0,))),))
        steps = steps_of(nest)
        kept = list(steps)
        steps.reverse()
        steps.pop()
        self.check(nest, kept)
        steps.clear()
        self.check(nest, kept)

    def test_two_nests_asked_in_turn(self):
        first = (2, (loop(0, 2, deed(1, 0, "set", (0,))),))
        second = (3, (loop(0, 1, cut_loop(1, 1, 1, 0, deed(2, 7, "set", (1,)))),))
        for again in range(2):
            self.check(first, [(0, "set", (0,), ()), (0, "set", (1,), ())])
            self.check(second, [(7, "set", (0,), ())])

    def test_nested_sixty_deep(self):
        body = (deed(59, 0, "add", (58, 0), (30,)),)
        for number in range(58, -1, -1):
            body = (loop(number, 2 if number in (0, 30, 58) else 1, *body),)
        self.check((60, body), [(0, "add", (last, first), (middle,)) for first in (0, 1) for middle in (0, 1)
                                for last in (0, 1)])

    def test_four_thousand_steps(self):
        nest = (4, (loop(0, 50, deed(1, 0, "start", (0,)), loop(2, 79, deed(3, 0, "add", (0,), (2,)))),))
        steps = steps_of(nest)
        self.assertEqual(len(steps), 4000)
        self.assertEqual(steps, plain_steps(nest))

    def test_the_first_order_by_loops_written_out(self):
        cloth = cloth_of(Program(10, [("x", 2), ("k", 3)], [], [
            Let("b", ["x"], Plus(Sum("k", Place("x")), ONE)), Let("c", [], ONE)], ["b"]))
        nest = (7, (loop(0, 2, deed(1, 0, "start", (0,)), loop(2, 3, deed(3, 0, "add", (0,), (2,)))),
                    loop(4, 2, deed(5, 1, "set", (4,))), deed(6, 2, "set")))
        self.check(nest, first_order(cloth))

    def test_many_nests_against_a_plain_walk(self):
        mill = Mill(31)
        ordered = 0
        for again in range(300):
            nest = mill.nest()
            steps = plain_steps(nest)
            if len(steps) <= 4000:
                self.assertEqual(steps_of(nest), steps)
                ordered = ordered + (steps != plain_steps((nest[0], nest[1][::-1])))
        # A look at the mill itself: in many nests the order matters.
        self.assertGreater(ordered, 50)


if __name__ == "__main__":
    unittest.main()
