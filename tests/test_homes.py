import unittest

from arrayloom.homes import homes_of
from arrayloom.judging import judge
from arrayloom.lifting import cloth_of
from arrayloom.lines import Cloth
from arrayloom.lines import Line
from arrayloom.lives import crowd_of
from arrayloom.lives import lives_of
from arrayloom.moves import planned
from arrayloom.programs import Let
from arrayloom.programs import Program
from arrayloom.steps import first_order
from arrayloom.steps import steps_of
from arrayloom.terms import Guard
from arrayloom.terms import Number
from arrayloom.terms import Plus
from arrayloom.terms import Read
from arrayloom.terms import Sum
from tests.mill import plain_homes
from tests.mill import plain_lives
from tests.mill import small_cloths
from tests.samples import LENGTHS
from tests.samples import cloth_with

ONE = Number(1)
TABLES = {"a": ["x"], "g": ["x", "y"], "n": []}


def read(array, *indexes):
    return Read(array, list(indexes))


def sum_of(*reads):
    term = reads[0]
    for other in reads[1:]:
        term = Plus(term, other)
    return term


class Homes(unittest.TestCase):
    def check(self, cloth, steps, room, homes):
        judge(cloth, steps)
        kept = list(steps)
        for again in range(2):
            told = homes_of(cloth, steps)
            self.assertEqual(told, (room, homes))
            self.assertEqual(sorted(told[1]), sorted(cloth.arrays))
        self.assertEqual(homes_of(cloth=cloth, steps=steps), (room, homes))
        self.assertEqual(plain_homes(cloth, steps), (room, homes))
        self.assertEqual(len(crowd_of(cloth, steps)[1]), room)
        self.assertEqual(steps, kept)

    def check_first(self, cloth, room, homes):
        self.check(cloth, first_order(cloth), room, homes)


class Tables(Homes):
    def test_from_0_on(self):
        lines = [Line("b", ["x"], [], ONE)]
        self.check_first(cloth_with(*lines, tables={"a": ["x"]}, outs=["a", "b"]), 4,
                         {"a": {(0,): 0, (1,): 1}, "b": {(0,): 2, (1,): 3}})

    def test_tables_in_order_and_cells_in_row_order(self):
        # Neither the order of the letters, nor that of the outs, nor that of the reads.
        term = sum_of(read("g", ("", 1), ("", 2)), read("a", ("", 1)), read("g", ("", 0), ("", 1)))
        cloth = cloth_with(Line("b", [], [], term), tables={"t": ["x"], "g": ["x", "y"], "a": ["x"]}, outs=["b", "t"])
        self.check_first(cloth, 5, {"t": {(0,): 0, (1,): 1}, "g": {(0, 1): 2, (1, 2): 3}, "a": {(1,): 4}, "b": {(): 2}})

    def test_cells_that_are_not_wanted_take_no_box(self):
        cloth = cloth_with(Line("b", [], [], sum_of(read("a", ("", 1)), read("n"))), tables=TABLES)
        self.check_first(cloth, 2, {"a": {(1,): 0}, "g": {}, "n": {(): 1}, "b": {(): 0}})

    def test_numbers_above_nine(self):
        cloth = cloth_with(Line("b", [], ["z"], read("a", ("z", 0))), tables={"a": ["z"]}, lengths={"z": 12})
        self.check_first(cloth, 13, {"a": {(z,): z for z in range(12)}, "b": {(): 12}})

    def test_outs_that_are_tables_alone(self):
        cloth = cloth_with(Line("b", ["x"], [], read("g", ("", 0), ("", 0))), tables=TABLES, outs=["n", "a"])
        self.check_first(cloth, 3, {"a": {(0,): 0, (1,): 1}, "g": {}, "n": {(): 2}, "b": {}})

    def test_a_cloth_without_lines(self):
        self.check(Cloth(10, {"x": 2}, {"a": ["x"], "n": []}, ["a", "n"], [], ["n"]), [], 1, {"a": {}, "n": {(): 0}})


class Boxes(Homes):
    def test_a_box_that_becomes_free_right_ahead_of_the_step(self):
        lines = [Line("b", [], [], read("n"))]
        self.check_first(cloth_with(*lines, tables={"n": []}), 1, {"n": {(): 0}, "b": {(): 0}})
        lines = [Line("b", [], [], ONE), Line("c", [], [], read("b")), Line("d", [], [], read("c"))]
        self.check_first(cloth_with(*lines, outs=["d"]), 1, {"b": {(): 0}, "c": {(): 0}, "d": {(): 0}})

    def test_a_box_is_not_free_for_a_step_behind_which_its_cell_is_read(self):
        lines = [Line("b", [], [], read("n")), Line("c", [], [], sum_of(read("n"), read("b")))]
        self.check_first(cloth_with(*lines, tables={"n": []}, outs=["c"]), 2,
                         {"n": {(): 0}, "b": {(): 1}, "c": {(): 0}})

    def test_a_box_that_became_free_earlier(self):
        # The box of n becomes free at an add, which takes none.
        lines = [Line("b", [], ["k"], Guard("k", 0, 1, read("n"), ONE)), Line("c", ["x"], [], ONE)]
        self.check_first(cloth_with(*lines, tables={"n": []}), 3, {"n": {(): 0}, "b": {(): 1}, "c": {(0,): 0, (1,): 2}})
        # Two become free at the one step of b, which takes the lesser one.
        lines = [Line("b", [], [], sum_of(read("n"), read("a", ("", 0)))), Line("c", ["x"], [], ONE)]
        cloth = cloth_with(*lines, tables={"n": [], "a": ["x"]})
        self.check_first(cloth, 3, {"n": {(): 0}, "a": {(0,): 1}, "b": {(): 0}, "c": {(0,): 1, (1,): 2}})

    def test_the_least_of_several_that_are_free(self):
        # The boxes of t become free in the order 2, 0, 1.
        lines = [Line("b", [], [], read("t", ("", 2))), Line("c", [], [], sum_of(read("t", ("", 0)), read("b"))),
                 Line("d", [], [], sum_of(read("t", ("", 1)), read("c"))), Line("e", ["y"], [], ONE)]
        cloth = cloth_with(*lines, tables={"t": ["y"]}, outs=["d", "e"])
        self.check_first(cloth, 4, {"t": {(0,): 0, (1,): 1, (2,): 2}, "b": {(): 2}, "c": {(): 0}, "d": {(): 0},
                                    "e": {(0,): 1, (1,): 2, (2,): 3}})

    def test_boxes_that_become_free_all_at_once(self):
        lines = [Line("b", [], [], sum_of(*[read("t", ("", y)) for y in (2, 0, 1)])), Line("c", ["y"], [], ONE)]
        cloth = cloth_with(*lines, tables={"t": ["y"]})
        self.check_first(cloth, 4, {"t": {(0,): 0, (1,): 1, (2,): 2}, "b": {(): 0}, "c": {(0,): 1, (1,): 2, (2,): 3}})

    def test_boxes_that_become_free_one_behind_the_other_are_taken_by_their_numbers(self):
        # First the box 1, then the box 0, both ahead of the next cell that wants one.
        lines = [Line("b", [], ["k"], Guard("k", 0, 1, read("t", ("", 1)), read("t", ("", 0)))),
                 Line("c", [], [], ONE), Line("d", [], [], ONE)]
        cloth = cloth_with(*lines, tables={"t": ["x"]})
        self.check_first(cloth, 3, {"t": {(0,): 0, (1,): 1}, "b": {(): 2}, "c": {(): 0}, "d": {(): 1}})
        start, first, second, c, d = first_order(cloth)
        self.check(cloth, [start, first, c, second, d], 3,
                   {"t": {(0,): 0, (1,): 1}, "b": {(): 2}, "c": {(): 1}, "d": {(): 0}})

    def test_adds_do_not_take_another_box(self):
        lines = [Line("b", [], ["y"], read("t", ("y", 0)))]
        cloth = cloth_with(*lines, tables={"t": ["y"]})
        # Boxes become free at the adds, too, and lesser ones than that of the start.
        self.check_first(cloth, 4, {"t": {(0,): 0, (1,): 1, (2,): 2}, "b": {(): 3}})
        start, first, second, third = first_order(cloth)
        self.check(cloth, [start, third, first, second], 4, {"t": {(0,): 0, (1,): 1, (2,): 2}, "b": {(): 3}})

    def test_a_start_ahead_of_other_steps_keeps_its_box(self):
        lines = [Line("b", [], ["k"], ONE), Line("c", ["x"], [], ONE), Line("d", [], [], read("c", ("", 0)))]
        cloth = cloth_with(*lines, outs=["b", "d"])
        start, first, second, c_zero, c_one, d = first_order(cloth)
        self.check(cloth, [start, c_zero, first, c_one, d, second], 2, {"b": {(): 0}, "c": {(0,): 1}, "d": {(): 1}})
        self.check(cloth, [c_one, c_zero, start, first, d, second], 2, {"b": {(): 1}, "c": {(0,): 0}, "d": {(): 0}})

    def test_cells_of_unwanted_steps_have_no_home(self):
        lines = [Line("b", ["y"], [], ONE), Line("c", [], [], read("b", ("", 1)))]
        self.check_first(cloth_with(*lines, tables=TABLES, outs=["c"]), 1,
                         {"a": {}, "g": {}, "n": {}, "b": {(1,): 0}, "c": {(): 0}})

    def test_reads_by_unwanted_steps_keep_no_box(self):
        lines = [Line("b", [], [], ONE), Line("c", [], [], read("b")), Line("d", [], [], ONE),
                 Line("e", [], [], read("b"))]
        self.check_first(cloth_with(*lines, outs=["c", "d"]), 2, {"b": {(): 0}, "c": {(): 0}, "d": {(): 1}, "e": {}})

    def test_boxes_of_outs_never_become_free(self):
        lines = [Line("b", [], [], ONE), Line("c", [], [], read("b")), Line("d", [], [], ONE)]
        self.check_first(cloth_with(*lines), 3, {"b": {(): 0}, "c": {(): 1}, "d": {(): 2}})
        cloth = cloth_with(Line("b", [], [], read("n")), tables={"n": []}, outs=["b", "n"])
        self.check_first(cloth, 2, {"n": {(): 0}, "b": {(): 1}})

    def test_a_line_that_reads_itself(self):
        two_back = Guard("y", 2, 6, sum_of(read("b", ("y", -1)), read("b", ("y", -2))), ONE)
        lines = [Line("b", ["y"], [], two_back), Line("c", [], [], read("b", ("", 5)))]
        self.check_first(cloth_with(*lines, lengths={"y": 6}, outs=["c"]), 2,
                         {"b": {(0,): 0, (1,): 1, (2,): 0, (3,): 1, (4,): 0, (5,): 0}, "c": {(): 0}})

    def test_of_a_program(self):
        total = Sum("k", Read("a", [("k", 0)]))
        cloth = cloth_of(Program(10, [("x", 2), ("k", 2)], [("a", ["x"])],
                                 [Let("b", ["x"], Plus(Read("a", [("x", 0)]), total))], ["b"]))
        self.check_first(cloth, 3, {"a": {(0,): 0, (1,): 1}, "s0": {(): 2}, "b": {(0,): 0, (1,): 1}})


class OrdersOfNests(Homes):
    def check_moved(self, cloth, moves, room, homes):
        self.check(cloth, steps_of(planned(cloth, moves)), room, homes)

    def test_a_join(self):
        lines = [Line("b", ["y"], [], ONE), Line("c", ["y"], [], read("b", ("y", 0)))]
        cloth = cloth_with(*lines, outs=["c"])
        three = {(0,): 0, (1,): 1, (2,): 2}
        self.check_moved(cloth, [], 3, {"b": three, "c": three})
        self.check_moved(cloth, [("join", 0)], 3, {"b": three, "c": three})
        lines.append(Line("d", [], ["y"], read("c", ("y", 0))))
        cloth = cloth_with(*lines, outs=["d"])
        self.check_moved(cloth, [], 4, {"b": three, "c": three, "d": {(): 3}})

    def test_a_swap_and_a_cut(self):
        lines = [Line("b", ["x", "y"], [], read("g", ("x", 0), ("y", 0)))]
        cloth = cloth_with(*lines, tables={"g": ["x", "y"]})
        whole = {(0, 0): 0, (0, 1): 1, (0, 2): 2, (1, 0): 3, (1, 1): 4, (1, 2): 5}
        for moves in ([], [("swap", 0)], [("cut", 1, 2), ("swap", 0)]):
            self.check_moved(cloth, moves, 6, {"g": whole, "b": whole})
        cloth = cloth_with(Line("b", ["x", "y"], [], ONE))
        self.check_moved(cloth, [], 6, {"b": whole})
        self.check_moved(cloth, [("swap", 0)], 6,
                         {"b": {(0, 0): 0, (1, 0): 1, (0, 1): 2, (1, 1): 3, (0, 2): 4, (1, 2): 5}})
        self.check_moved(cloth, [("cut", 1, 2), ("swap", 0)], 6,
                         {"b": {(0, 0): 0, (0, 1): 1, (1, 0): 2, (1, 1): 3, (0, 2): 4, (1, 2): 5}})

    def test_sums_joined_need_less_room(self):
        lines = [Line("b", ["y"], [], read("t", ("y", 0))), Line("c", [], ["y"], read("b", ("y", 0)))]
        cloth = cloth_with(*lines, tables={"t": ["y"]}, outs=["c"])
        three = {(0,): 0, (1,): 1, (2,): 2}
        self.check_moved(cloth, [], 4, {"t": three, "b": three, "c": {(): 3}})
        b_zero, b_one, b_two, start, first, second, third = first_order(cloth)
        self.check(cloth, [start, b_zero, first, b_one, second, b_two, third], 4,
                   {"t": three, "b": {(0,): 0, (1,): 0, (2,): 0}, "c": {(): 3}})

    def test_many_orders_against_a_plain_walk(self):
        orders, more = 0, 0
        for mill, cloth in small_cloths(101, 60, 60):
            for steps in mill.orders(cloth):
                room, homes = plain_homes(cloth, steps)
                self.check(cloth, steps, room, homes)
                orders = orders + 1
                more = more + (room < sum(len(there) for there in homes.values()))
        # A look at the mill itself: many orders, and in many of them boxes are taken again.
        self.assertGreater(orders, 600)
        self.assertGreater(more, 200)

    def test_no_two_that_are_live_at_one_gap_share_a_box_and_the_room_is_filled(self):
        for mill, cloth in small_cloths(103, 50, 80):
            for steps in mill.orders(cloth):
                room, homes = homes_of(cloth, steps)
                lives = plain_lives(cloth, steps)
                fullest = 0
                for gap in range(len(steps) + 1):
                    taken = [homes[array][cell] for array, spans in lives.items() for cell, life in spans.items()
                             if life[0] <= gap <= life[1]]
                    self.assertEqual(len(taken), len(set(taken)))
                    self.assertTrue(all(0 <= box < room for box in taken))
                    fullest = max(fullest, len(taken))
                self.assertEqual(fullest, room)


class TheAskersOwn(Homes):
    def test_kinds(self):
        cloth = cloth_with(Line("b", ["x"], ["k"], read("a", ("x", 0))), tables=TABLES)
        told = homes_of(cloth, first_order(cloth))
        self.assertEqual([type(told), len(told), type(told[0]), type(told[1])], [tuple, 2, int, dict])
        for array, there in told[1].items():
            self.assertEqual([type(array), type(there)], [str, dict])
            for cell, home in there.items():
                self.assertEqual([type(cell), type(home)], [tuple, int])

    def test_the_same_cells_as_the_lives_have(self):
        for mill, cloth in small_cloths(107, 10, 80):
            steps = first_order(cloth)
            room, homes = homes_of(cloth, steps)
            lives = lives_of(cloth, steps)
            self.assertEqual({array: set(there) for array, there in homes.items()},
                             {array: set(spans) for array, spans in lives.items()})

    def test_the_asker_changes_what_was_told(self):
        cloth = cloth_with(Line("b", ["x"], [], ONE), Line("c", [], [], ONE), outs=["b"])
        room, homes = homes_of(cloth, first_order(cloth))
        for there in homes.values():
            there[(7,)] = 7
        self.check_first(cloth, 2, {"b": {(0,): 0, (1,): 1}, "c": {}})
        homes["b"].clear()
        homes.clear()
        self.check_first(cloth, 2, {"b": {(0,): 0, (1,): 1}, "c": {}})

    def test_the_asker_changes_the_list_of_steps_later(self):
        cloth = cloth_with(Line("b", ["x"], [], ONE))
        steps = first_order(cloth)
        told = homes_of(cloth, steps)
        steps.reverse()
        self.assertEqual(told, (2, {"b": {(0,): 0, (1,): 1}}))
        self.check(cloth, steps, 2, {"b": {(0,): 1, (1,): 0}})
        steps.clear()
        self.check_first(cloth, 2, {"b": {(0,): 0, (1,): 1}})

    def test_the_cloth_stays(self):
        cloth = cloth_with(Line("b", ["x"], ["k"], read("a", ("x", 0))), tables=TABLES)
        homes_of(cloth, first_order(cloth))
        self.assertEqual((cloth.lengths, cloth.arrays), (LENGTHS, {**TABLES, "b": ["x"]}))
        self.assertEqual((cloth.tables, cloth.outs), (["a", "g", "n"], ["b"]))
        self.assertEqual((cloth.lines[0].axes, cloth.lines[0].sums), (["x"], ["k"]))

    def test_steps_and_cells_as_many_as_told(self):
        # Each cell of t is read once, from the last to the first, so that its box goes to the cell that reads it.
        lengths = {"u": 60, "v": 60}
        cloth = cloth_with(Line("b", ["u", "v"], [], read("t", ("u", 0), ("v", 0))), lengths=lengths,
                           tables={"t": ["u", "v"]})
        room, homes = homes_of(cloth, first_order(cloth)[::-1])
        self.assertEqual(room, 3600)
        self.assertEqual(homes["b"], homes["t"])
        self.assertEqual(sorted(homes["t"].values()), list(range(3600)))


if __name__ == "__main__":
    unittest.main()
