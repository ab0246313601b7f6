import copy
import unittest

from arrayloom.errors import NoMove
from arrayloom.lines import Line
from arrayloom.moves import moved
from arrayloom.nests import first_nest
from arrayloom.steps import steps_of
from arrayloom.terms import Number
from tests.mill import Mill
from tests.mill import nodes_of
from tests.mill import plain_moved
from tests.mill import plain_steps
from tests.samples import cloth_with
from tests.samples import cut_loop
from tests.samples import deed
from tests.samples import loop

ONE = Number(1)
FAR = 10 ** 29


class Moves(unittest.TestCase):
    def check(self, nest, move, wanted):
        kept = copy.deepcopy(nest)
        for again in range(2):
            self.assertEqual(moved(nest, move), wanted)
        self.assertEqual(moved(nest=nest, move=move), wanted)
        self.assertEqual(nest, kept)
        self.assertEqual(plain_moved(nest, move), wanted)
        self.check_kinds(moved(nest, move))
        self.check_numbers(nest)
        self.check_numbers(wanted)
        self.assertEqual(sorted(steps_of(wanted)), sorted(steps_of(nest)))

    def check_numbers(self, nest):
        """What point 22 asks of a nest that is handed in."""
        numbers = [node[1] for node in nodes_of(nest[1])]
        self.assertEqual(len(set(numbers)), len(numbers))
        self.assertEqual([number for number in numbers if not 0 <= number < nest[0]], [])

    def check_kinds(self, nest):
        self.assertEqual([type(member) for member in nest], [int, tuple])
        for node in nodes_of(nest[1]):
            kinds = {"loop": [str, int, int, int, int, tuple], "deed": [str, int, int, str, tuple, tuple]}[node[0]]
            self.assertIs(type(node), tuple)
            self.assertEqual([type(member) for member in node], kinds)

    def refuse(self, nest, move):
        kept = copy.deepcopy(nest)
        for again in range(2):
            with self.assertRaises(NoMove) as caught:
                moved(nest, move)
            self.assertEqual(caught.exception.place, 0)
            self.assertIs(type(caught.exception.place), int)
        self.assertEqual(nest, kept)
        self.assertIsNone(plain_moved(nest, move))


class Swap(Moves):
    def test_two_loops(self):
        nest = (3, (loop(0, 2, loop(1, 3, deed(2, 0, "set", (0, 1)))),))
        self.check(nest, ("swap", 0), (3, (loop(1, 3, loop(0, 2, deed(2, 0, "set", (0, 1)))),)))

    def test_swapped_back(self):
        nest = (3, (loop(0, 2, loop(1, 3, deed(2, 0, "set", (0, 1)))),))
        self.assertEqual(moved(moved(nest, ("swap", 0)), ("swap", 1)), nest)

    def test_the_steps_come_in_another_order(self):
        nest = (3, (loop(0, 2, loop(1, 2, deed(2, 0, "set", (0, 1)))),))
        self.assertEqual([step[2] for step in steps_of(moved(nest, ("swap", 0)))], [(0, 0), (1, 0), (0, 1), (1, 1)])

    def test_of_three_loops_the_outermost_and_the_middle_one(self):
        nest = (4, (loop(0, 2, loop(1, 3, loop(2, 4, deed(3, 0, "set", (0, 1, 2))))),))
        self.check(nest, ("swap", 0), (4, (loop(1, 3, loop(0, 2, loop(2, 4, deed(3, 0, "set", (0, 1, 2))))),)))
        self.check(nest, ("swap", 1), (4, (loop(0, 2, loop(2, 4, loop(1, 3, deed(3, 0, "set", (0, 1, 2))))),)))
        self.refuse(nest, ("swap", 2))

    def test_the_body_of_the_inner_loop_has_several_nodes(self):
        inside = (deed(2, 0, "start", (0, 1)), loop(3, 2, deed(4, 0, "add", (0, 1), (3,))), deed(5, 1, "set", (1, 0)))
        self.check((6, (loop(0, 2, loop(1, 3, *inside)),)), ("swap", 0), (6, (loop(1, 3, loop(0, 2, *inside)),)))

    def test_a_body_of_a_deed(self):
        self.refuse((2, (loop(0, 2, deed(1, 0, "set", (0,))),)), ("swap", 0))

    def test_a_body_of_two_loops(self):
        nest = (5, (loop(0, 2, loop(1, 2, deed(2, 0, "set", (0, 1))), loop(3, 2, deed(4, 1, "set", (0, 3)))),))
        self.refuse(nest, ("swap", 0))

    def test_a_body_of_a_loop_and_a_deed(self):
        one, other = loop(1, 2, deed(2, 0, "set", (0, 1))), deed(3, 1, "set", (0,))
        self.refuse((4, (loop(0, 2, one, other),)), ("swap", 0))
        self.refuse((4, (loop(0, 2, other, one),)), ("swap", 0))

    def test_a_body_of_two_deeds(self):
        self.refuse((3, (loop(0, 2, deed(1, 0, "set", (0,)), deed(2, 1, "set", (0,))),)), ("swap", 0))

    def test_the_inner_loop_counts_within_the_outer_one(self):
        for width in (1, 2, 3, 9):
            size = (3 + width - 1) // width
            self.refuse((3, (loop(0, size, cut_loop(1, 3, width, 0, deed(2, 0, "set", (1,)))),)), ("swap", 0))
            self.refuse((3, (loop(2, size, cut_loop(0, 3, width, 2, deed(1, 0, "set", (0,)))),)), ("swap", 2))

    def test_the_inner_loop_counts_within_one_further_out(self):
        nest = (4, (loop(0, 2, loop(1, 3, cut_loop(2, 4, 2, 0, deed(3, 0, "set", (2, 1))))),))
        self.check(nest, ("swap", 1), (4, (loop(0, 2, cut_loop(2, 4, 2, 0, loop(1, 3, deed(3, 0, "set", (2, 1))))),)))
        self.check(nest, ("swap", 0), (4, (loop(1, 3, loop(0, 2, cut_loop(2, 4, 2, 0, deed(3, 0, "set", (2, 1))))),)))

    def test_the_outer_loop_counts_within_one_further_out(self):
        nest = (4, (loop(0, 2, cut_loop(2, 4, 2, 0, loop(1, 3, deed(3, 0, "set", (2, 1))))),))
        self.check(nest, ("swap", 2), (4, (loop(0, 2, loop(1, 3, cut_loop(2, 4, 2, 0, deed(3, 0, "set", (2, 1))))),)))
        self.refuse(nest, ("swap", 0))

    def test_a_loop_further_in_counts_within_the_one_that_is_swapped(self):
        nest = (4, (loop(1, 2, loop(0, 3, cut_loop(3, 3, 2, 1, deed(2, 0, "set", (3, 0))))),))
        self.check(nest, ("swap", 1), (4, (loop(0, 3, loop(1, 2, cut_loop(3, 3, 2, 1, deed(2, 0, "set", (3, 0))))),)))

    def test_both_count_within_loops_further_out(self):
        tiles = (cut_loop(2, 4, 2, 0, cut_loop(3, 5, 3, 1, deed(4, 0, "set", (2, 3)))),)
        turned = (cut_loop(3, 5, 3, 1, cut_loop(2, 4, 2, 0, deed(4, 0, "set", (2, 3)))),)
        nest = (5, (loop(0, 2, loop(1, 2, *tiles)),))
        self.check(nest, ("swap", 2), (5, (loop(0, 2, loop(1, 2, *turned)),)))
        self.check(nest, ("swap", 0), (5, (loop(1, 2, loop(0, 2, *tiles)),)))
        # In the turned one 3 stands right within 1, and counts within it.
        self.check((5, (loop(0, 2, loop(1, 2, *turned)),)), ("swap", 3), (5, (loop(0, 2, loop(1, 2, *tiles)),)))
        self.refuse((5, (loop(0, 2, loop(1, 2, *turned)),)), ("swap", 1))

    def test_in_the_first_node_and_in_a_later_one(self):
        first = loop(0, 2, loop(1, 3, deed(2, 0, "set", (0, 1))))
        second = loop(3, 2, loop(4, 3, deed(5, 1, "set", (3, 4))))
        first_turned = loop(1, 3, loop(0, 2, deed(2, 0, "set", (0, 1))))
        second_turned = loop(4, 3, loop(3, 2, deed(5, 1, "set", (3, 4))))
        between = deed(6, 2, "set")
        nest = (7, (first, between, second))
        self.check(nest, ("swap", 0), (7, (first_turned, between, second)))
        self.check(nest, ("swap", 3), (7, (first, between, second_turned)))

    def test_in_the_midst_of_a_body(self):
        inner = loop(2, 2, loop(3, 3, deed(4, 0, "add", (0,), (2, 3))))
        turned = loop(3, 3, loop(2, 2, deed(4, 0, "add", (0,), (2, 3))))
        ahead, behind = deed(1, 0, "start", (0,)), loop(5, 2, deed(6, 1, "set", (5, 0)))
        self.check((7, (loop(0, 2, ahead, inner, behind),)), ("swap", 2), (7, (loop(0, 2, ahead, turned, behind),)))

    def test_numbers_that_are_not_in_order(self):
        nest = (90, (loop(70, 2, loop(3, 3, deed(0, 4, "add", (3,), (70,)))),))
        self.check(nest, ("swap", 70), (90, (loop(3, 3, loop(70, 2, deed(0, 4, "add", (3,), (70,)))),)))

    def test_loops_of_one_size(self):
        nest = (3, (loop(1, 2, loop(0, 2, deed(2, 0, "set", (1, 0)))),))
        self.check(nest, ("swap", 1), (3, (loop(0, 2, loop(1, 2, deed(2, 0, "set", (1, 0)))),)))

    def test_deep_within(self):
        body = (loop(58, 3, deed(59, 0, "set", (58, 57))),)
        turned = (loop(58, 3, loop(57, 2, deed(59, 0, "set", (58, 57)))),)
        body = (loop(57, 2, *body),)
        for number in range(56, -1, -1):
            body, turned = (loop(number, 1, *body),), (loop(number, 1, *turned),)
        self.check((60, body), ("swap", 57), (60, turned))


class Cut(Moves):
    def check_sizes(self, size, width, counts):
        nest = (2, (loop(0, size, deed(1, 0, "set", (0,))),))
        wanted = (3, (loop(0, counts, cut_loop(2, size, width, 0, deed(1, 0, "set", (2,)))),))
        self.check(nest, ("cut", 0, width), wanted)
        # The steps themselves stay where they are.
        self.assertEqual(steps_of(wanted), steps_of(nest))

    def test_widths_that_divide_the_size(self):
        for size, width, counts in ((6, 2, 3), (6, 3, 2), (4, 2, 2), (60, 12, 5)):
            self.check_sizes(size, width, counts)

    def test_widths_that_do_not_divide_the_size(self):
        for size, width, counts in ((5, 2, 3), (7, 3, 3), (8, 3, 3), (5, 4, 2), (60, 59, 2), (60, 31, 2), (60, 7, 9)):
            self.check_sizes(size, width, counts)

    def test_a_width_of_one(self):
        for size in (1, 2, 5, 60):
            self.check_sizes(size, 1, size)

    def test_a_width_of_the_size(self):
        for size in (1, 2, 5, 60):
            self.check_sizes(size, size, 1)

    def test_a_width_above_the_size(self):
        for size in (1, 2, 5, 60):
            for width in (size + 1, 2 * size, 61, 1000, FAR, 10 * FAR - 1):
                self.check_sizes(size, width, 1)

    def test_all_small_sizes_and_widths(self):
        for size in range(1, 13):
            for width in range(1, 15):
                self.check_sizes(size, width, len(range(0, size, width)))

    def test_widths_below_one(self):
        nest = (2, (loop(0, 3, deed(1, 0, "set", (0,))),))
        for width in (0, -1, -3, -FAR):
            self.refuse(nest, ("cut", 0, width))

    def test_a_loop_that_a_cut_made(self):
        nest = (3, (loop(0, 3, cut_loop(1, 6, 2, 0, deed(2, 0, "set", (1,)))),))
        for width in (0, 1, 2, 6, FAR):
            self.refuse(nest, ("cut", 1, width))
        nest = (3, (loop(1, 3, cut_loop(0, 6, 2, 1, deed(2, 0, "set", (0,)))),))
        self.refuse(nest, ("cut", 0, 2))

    def test_a_loop_that_was_cut(self):
        nest = (2, (loop(0, 12, deed(1, 0, "set", (0,))),))
        once = (3, (loop(0, 4, cut_loop(2, 12, 3, 0, deed(1, 0, "set", (2,)))),))
        twice = (4, (loop(0, 2, cut_loop(3, 4, 2, 0, cut_loop(2, 12, 3, 3, deed(1, 0, "set", (2,))))),))
        thrice = (5, (loop(0, 1, cut_loop(4, 2, 5, 0, cut_loop(3, 4, 2, 4, cut_loop(2, 12, 3, 3, deed(
            1, 0, "set", (2,)))))),))
        self.check(nest, ("cut", 0, 3), once)
        self.check(once, ("cut", 0, 2), twice)
        self.check(twice, ("cut", 0, 5), thrice)
        self.assertEqual(steps_of(thrice), steps_of(nest))

    def test_the_number_is_the_next_one_of_the_nest(self):
        nest = (40, (loop(7, 4, deed(3, 0, "set", (7,))),))
        self.check(nest, ("cut", 7, 2), (41, (loop(7, 2, cut_loop(40, 4, 2, 7, deed(3, 0, "set", (40,)))),)))

    def test_in_cells_and_turns(self):
        add = deed(4, 0, "add", (1, 0), (3, 1))
        nest = (6, (loop(0, 2, loop(1, 3, deed(2, 0, "start", (1, 0)), loop(3, 4, add))),))
        self.check(nest, ("cut", 1, 2), (7, (loop(0, 2, loop(1, 2, cut_loop(
            6, 3, 2, 1, deed(2, 0, "start", (6, 0)), loop(3, 4, deed(4, 0, "add", (6, 0), (3, 6)))))),)))
        self.check(nest, ("cut", 3, 3), (7, (loop(0, 2, loop(1, 3, deed(2, 0, "start", (1, 0)), loop(3, 2, cut_loop(
            6, 4, 3, 3, deed(4, 0, "add", (1, 0), (6, 1)))))),)))
        self.check(nest, ("cut", 0, 2), (7, (loop(0, 1, cut_loop(6, 2, 2, 0, loop(
            1, 3, deed(2, 0, "start", (1, 6)), loop(3, 4, deed(4, 0, "add", (1, 6), (3, 1)))))),)))

    def test_named_twice_in_one_deed(self):
        nest = (2, (loop(0, 3, deed(1, 0, "add", (0, 0), (0, 0))),))
        self.check(nest, ("cut", 0, 2), (3, (loop(0, 2, cut_loop(2, 3, 2, 0, deed(1, 0, "add", (2, 2), (2, 2)))),)))

    def test_in_outers(self):
        inside = (loop(1, 2, cut_loop(3, 5, 2, 0, deed(2, 0, "set", (3, 1)))),
                  cut_loop(4, 6, 2, 0, deed(5, 1, "set", (4, 0))))
        within = (loop(1, 2, cut_loop(3, 5, 2, 6, deed(2, 0, "set", (3, 1)))),
                  cut_loop(4, 6, 2, 6, deed(5, 1, "set", (4, 6))))
        self.check((6, (loop(0, 3, *inside),)), ("cut", 0, 2), (7, (loop(0, 2, cut_loop(6, 3, 2, 0, *within)),)))

    def test_numbers_that_are_only_alike_stay(self):
        # The line 1, the size 1, the width 1 and the deed's number are not the loop 1.
        nest = (12, (loop(0, 1, loop(11, 1, loop(1, 2, cut_loop(3, 1, 1, 0, deed(2, 1, "set", (3, 11, 1)))))),))
        self.check(nest, ("cut", 1, 1), (13, (loop(0, 1, loop(11, 1, loop(1, 2, cut_loop(
            12, 2, 1, 1, cut_loop(3, 1, 1, 0, deed(2, 1, "set", (3, 11, 12))))))),)))

    def test_a_deed_with_the_line_of_that_number(self):
        nest = (3, (loop(0, 2, deed(1, 0, "set", (0,)), deed(2, 0, "set", ())),))
        self.check(nest, ("cut", 0, 2), (4, (loop(0, 1, cut_loop(
            3, 2, 2, 0, deed(1, 0, "set", (3,)), deed(2, 0, "set", ()))),)))

    def test_other_nodes_stay(self):
        ahead, behind = loop(0, 3, deed(1, 0, "set", (0,))), loop(4, 3, cut_loop(5, 5, 2, 4, deed(6, 2, "set", (5,))))
        last = deed(7, 3, "set")
        nest = (8, (ahead, loop(2, 3, deed(3, 1, "set", (2,))), behind, last))
        self.check(nest, ("cut", 2, 2), (9, (
            ahead, loop(2, 2, cut_loop(8, 3, 2, 2, deed(3, 1, "set", (8,)))), behind, last)))

    def test_deep_within(self):
        body, cut = (deed(59, 0, "set", (58, 0)),), (loop(58, 3, cut_loop(60, 5, 2, 58, deed(59, 0, "set", (60, 0)))),)
        body = (loop(58, 5, *body),)
        for number in range(57, -1, -1):
            body, cut = (loop(number, 1, *body),), (loop(number, 1, *cut),)
        self.check((60, body), ("cut", 58, 2), (61, cut))

    def test_the_outermost_of_many(self):
        body, cut = (deed(58, 0, "set", (57, 0)),), (deed(58, 0, "set", (57, 59)),)
        for number in range(57, 0, -1):
            body, cut = (loop(number, 1, *body),), (loop(number, 1, *cut),)
        self.check((59, (loop(0, 3, *body),)), ("cut", 0, 2), (60, (loop(0, 2, cut_loop(59, 3, 2, 0, *cut)),)))


class Join(Moves):
    def test_two_loops_side_by_side(self):
        nest = (4, (loop(0, 3, deed(1, 0, "set", (0,))), loop(2, 3, deed(3, 1, "set", (2,)))))
        self.check(nest, ("join", 0), (4, (loop(0, 3, deed(1, 0, "set", (0,)), deed(3, 1, "set", (0,))),)))
        self.refuse(nest, ("join", 2))

    def test_the_steps_come_in_another_order(self):
        nest = (4, (loop(0, 2, deed(1, 0, "set", (0,))), loop(2, 2, deed(3, 1, "set", (2,)))))
        self.assertEqual(steps_of(moved(nest, ("join", 0))), [
            (0, "set", (0,), ()), (1, "set", (0,), ()), (0, "set", (1,), ()), (1, "set", (1,), ())])

    def test_unlike_sizes(self):
        for size in (2, 4, 1, 60):
            self.refuse((4, (loop(0, 3, deed(1, 0, "set", (0,))), loop(2, size, deed(3, 1, "set", (2,))))), ("join", 0))

    def test_unlike_widths(self):
        one = cut_loop(1, 4, 2, 0, deed(2, 0, "set", (1,)))
        for width in (1, 3, 4, FAR):
            other = cut_loop(3, 4, width, 0, deed(4, 1, "set", (3,)))
            self.refuse((5, (loop(0, 2, one, other),)), ("join", 1))

    def test_unlike_outers(self):
        for first, second in ((0, 5), (5, 0)):
            one = cut_loop(1, 4, 2, first, deed(2, 0, "set", (1,)))
            other = cut_loop(3, 4, 2, second, deed(4, 1, "set", (3,)))
            self.refuse((6, (loop(0, 2, loop(5, 2, one, other)),)), ("join", 1))

    def test_one_of_them_made_by_a_cut(self):
        # Both do the counts 0 to 3, but one of them with an outer.
        one, other = loop(1, 4, deed(2, 0, "set", (1,))), cut_loop(3, 4, 4, 0, deed(4, 1, "set", (3,)))
        self.refuse((5, (loop(0, 1, one, other),)), ("join", 1))
        self.refuse((5, (loop(0, 1, other, one),)), ("join", 3))

    def test_loops_that_cuts_made_within_one_loop(self):
        one, other = cut_loop(1, 5, 2, 0, deed(2, 0, "set", (1,))), cut_loop(3, 5, 2, 0, deed(4, 1, "set", (3, 0)))
        self.check((5, (loop(0, 3, one, other),)), ("join", 1), (5, (loop(0, 3, cut_loop(
            1, 5, 2, 0, deed(2, 0, "set", (1,)), deed(4, 1, "set", (1, 0)))),)))

    def test_nothing_behind(self):
        self.refuse((2, (loop(0, 3, deed(1, 0, "set", (0,))),)), ("join", 0))
        nest = (5, (loop(0, 3, loop(1, 3, deed(2, 0, "set", (0, 1)))), loop(3, 3, deed(4, 1, "set", (3,)))))
        # The loop 3 stands behind 1, but in another body.
        self.refuse(nest, ("join", 1))

    def test_a_deed_behind(self):
        self.refuse((3, (loop(0, 3, deed(1, 0, "set", (0,))), deed(2, 1, "set"))), ("join", 0))

    def test_a_deed_between(self):
        one, other = loop(0, 3, deed(1, 0, "set", (0,))), loop(2, 3, deed(3, 1, "set", (2,)))
        self.refuse((5, (one, deed(4, 2, "set"), other)), ("join", 0))

    def test_another_loop_between(self):
        one, other = loop(0, 3, deed(1, 0, "set", (0,))), loop(2, 3, deed(3, 1, "set", (2,)))
        self.refuse((6, (one, loop(4, 2, deed(5, 2, "set", (4,))), other)), ("join", 0))

    def test_the_other_loop_ahead(self):
        one, other = loop(0, 3, deed(1, 0, "set", (0,))), loop(2, 3, deed(3, 1, "set", (2,)))
        self.refuse((4, (one, other)), ("join", 2))
        self.refuse((5, (one, other, deed(4, 2, "set"))), ("join", 2))
        self.check((4, (other, one)), ("join", 2), (4, (loop(2, 3, deed(3, 1, "set", (2,)), deed(1, 0, "set", (2,))),)))

    def test_a_loop_within_is_no_loop_behind(self):
        self.refuse((3, (loop(0, 3, loop(1, 3, deed(2, 0, "set", (0, 1)))),)), ("join", 0))

    def test_three_loops(self):
        loops = [loop(number, 2, deed(number + 1, number // 2, "set", (number,))) for number in (0, 2, 4)]
        nest = (6, tuple(loops))
        once = (6, (loop(0, 2, deed(1, 0, "set", (0,)), deed(3, 1, "set", (0,))), loops[2]))
        both = (6, (loop(0, 2, deed(1, 0, "set", (0,)), deed(3, 1, "set", (0,)), deed(5, 2, "set", (0,))),))
        later = (6, (loops[0], loop(2, 2, deed(3, 1, "set", (2,)), deed(5, 2, "set", (2,)))))
        self.check(nest, ("join", 0), once)
        self.check(once, ("join", 0), both)
        self.check(nest, ("join", 2), later)
        self.check(later, ("join", 0), both)

    def test_bodies_of_several_nodes(self):
        one = loop(0, 2, deed(1, 0, "start", (0,)), loop(2, 3, deed(3, 0, "add", (0,), (2,))))
        other = loop(4, 2, deed(5, 1, "start", (4,)), loop(6, 3, deed(7, 1, "add", (4,), (6,))))
        self.check((8, (one, other)), ("join", 0), (8, (loop(
            0, 2, deed(1, 0, "start", (0,)), loop(2, 3, deed(3, 0, "add", (0,), (2,))),
            deed(5, 1, "start", (0,)), loop(6, 3, deed(7, 1, "add", (0,), (6,)))),)))

    def test_in_cells_turns_and_outers_deep_within(self):
        one = loop(0, 2, deed(1, 0, "set", (0,)))
        other = loop(2, 2, loop(3, 1, cut_loop(4, 4, 2, 2, loop(5, 1, deed(6, 1, "add", (2, 4, 2), (5, 2))))),
                     cut_loop(7, 3, 2, 2, deed(8, 2, "set", (7, 2))), deed(9, 2, "set", (2,)))
        self.check((10, (one, other)), ("join", 0), (10, (loop(
            0, 2, deed(1, 0, "set", (0,)),
            loop(3, 1, cut_loop(4, 4, 2, 0, loop(5, 1, deed(6, 1, "add", (0, 4, 0), (5, 0))))),
            cut_loop(7, 3, 2, 0, deed(8, 2, "set", (7, 0))), deed(9, 2, "set", (0,))),)))

    def test_what_counts_within_the_first_one_stays(self):
        one = loop(4, 2, cut_loop(1, 4, 2, 4, deed(0, 0, "set", (1, 4))))
        other = loop(2, 2, cut_loop(3, 4, 2, 2, deed(5, 1, "set", (3, 2))))
        joined = loop(4, 2, cut_loop(1, 4, 2, 4, deed(0, 0, "set", (1, 4))),
                      cut_loop(3, 4, 2, 4, deed(5, 1, "set", (3, 4))))
        self.check((6, (one, other)), ("join", 4), (6, (joined,)))
        # The two within have one outer now.
        self.check((6, (joined,)), ("join", 1), (6, (loop(4, 2, cut_loop(
            1, 4, 2, 4, deed(0, 0, "set", (1, 4)), deed(5, 1, "set", (1, 4)))),)))

    def test_numbers_that_are_only_alike_stay(self):
        # The line 2, the size 2 and the width 2 are not the loop 2; nor is the number of a deed.
        one = loop(0, 2, deed(1, 2, "set", (0,)))
        other = loop(2, 2, cut_loop(4, 2, 2, 9, deed(3, 2, "add", (9,), (4, 2))))
        joined = loop(0, 2, deed(1, 2, "set", (0,)), cut_loop(4, 2, 2, 9, deed(3, 2, "add", (9,), (4, 0))))
        self.check((10, (loop(9, 1, one, other),)), ("join", 0), (10, (loop(9, 1, joined),)))

    def test_what_stands_round_and_behind_stays(self):
        one, other = loop(1, 3, deed(2, 0, "set", (0, 1))), loop(3, 3, deed(4, 1, "set", (3, 0)))
        joined = loop(1, 3, deed(2, 0, "set", (0, 1)), deed(4, 1, "set", (1, 0)))
        ahead, behind, beside = deed(5, 2, "set", (0,)), deed(6, 3, "set", (0,)), loop(7, 3, deed(8, 4, "set", (7,)))
        self.check((9, (loop(0, 2, ahead, one, other, behind), beside)), ("join", 1),
                   (9, (loop(0, 2, ahead, joined, behind), beside)))
        self.check((9, (beside, loop(0, 2, one, other))), ("join", 1), (9, (beside, loop(0, 2, joined))))


class Refusals(Moves):
    def setUp(self):
        self.nest = first_nest(cloth_with(Line("b", ["x"], ["k"], ONE), Line("c", ["x", "y"], [], ONE)))

    def moves_of(self, number):
        return [("swap", number), ("cut", number, 2), ("join", number)]

    def test_the_nest(self):
        self.assertEqual(self.nest, (7, (
            loop(0, 2, deed(1, 0, "start", (0,)), loop(2, 2, deed(3, 0, "add", (0,), (2,)))),
            loop(4, 2, loop(5, 3, deed(6, 1, "set", (4, 5)))))))

    def test_no_loop_with_that_number(self):
        for number in (7, 8, 60, FAR, 10 * FAR - 1):
            for move in self.moves_of(number):
                self.refuse(self.nest, move)

    def test_numbers_below_nought(self):
        # -1 stands in the nest as an outer, but no loop bears it.
        for number in (-1, -2, -7, -FAR):
            for move in self.moves_of(number):
                self.refuse(self.nest, move)

    def test_the_number_of_a_deed(self):
        for number in (1, 3, 6):
            for move in self.moves_of(number):
                self.refuse(self.nest, move)

    def test_an_empty_nest(self):
        for number in (-1, 0, 1):
            for move in self.moves_of(number):
                self.refuse((0, ()), move)

    def test_a_nest_of_deeds(self):
        for move in self.moves_of(0) + self.moves_of(1):
            self.refuse((2, (deed(0, 0, "set"), deed(1, 1, "set"))), move)

    def test_no_such_loop_and_no_such_width(self):
        for move in (("cut", 1, 0), ("cut", -1, 0), ("cut", 99, -1)):
            self.refuse(self.nest, move)

    def test_another_case_than_told(self):
        for move in (("turn", 4), ("", 4), ("Swap", 4), ("swap", 4, 2), ("cut", 4), ("join", 0, 2)):
            with self.assertRaises(NoMove) as caught:
                moved(self.nest, move)
            self.assertEqual(caught.exception.place, 0)

    def test_the_nest_goes_on_behind_a_refusal(self):
        self.refuse(self.nest, ("swap", 0))
        self.check(self.nest, ("swap", 4), (7, (self.nest[1][0], loop(5, 3, loop(4, 2, deed(6, 1, "set", (4, 5)))))))

    def test_many_nests_against_a_plain_walk(self):
        mill = Mill(43)
        made = {"swap": 0, "cut": 0, "join": 0}
        refused = {"swap": 0, "cut": 0, "join": 0}
        for again in range(300):
            nest = mill.nest()
            for step in range(15):
                move = mill.move(nest)
                wanted = plain_moved(nest, move)
                if wanted is None:
                    self.refuse(nest, move)
                    refused[move[0]] = refused[move[0]] + 1
                else:
                    self.assertEqual(moved(nest, move), wanted)
                    made[move[0]] = made[move[0]] + 1
                    nest = wanted
        # A look at the mill itself.
        self.assertGreater(min(list(made.values()) + list(refused.values())), 30)

    def test_many_nests_keep_their_steps(self):
        mill = Mill(47)
        for again in range(150):
            nest = mill.nest()
            steps = sorted(plain_steps(nest))
            if len(steps) <= 500:
                moves, wanted = mill.row(nest, 6)
                for move in moves:
                    nest = moved(nest, move)
                    self.assertEqual(sorted(plain_steps(nest)), steps)
                self.assertEqual(nest, wanted)


if __name__ == "__main__":
    unittest.main()
