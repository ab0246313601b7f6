import random
import unittest

from arrayloom.errors import Clash
from arrayloom.errors import LoomError
from arrayloom.judging import judge
from arrayloom.lifting import cloth_of
from arrayloom.lines import Cloth
from arrayloom.lines import Line
from arrayloom.moves import planned
from arrayloom.nests import first_nest
from arrayloom.programs import Let
from arrayloom.programs import Program
from arrayloom.steps import first_order
from arrayloom.steps import steps_of
from arrayloom.terms import Guard
from arrayloom.terms import Number
from arrayloom.terms import Place
from arrayloom.terms import Plus
from arrayloom.terms import Read
from arrayloom.terms import Sum
from tests.mill import Mill
from tests.mill import plain_needs
from tests.mill import plain_order
from tests.mill import sorted_by_needs
from tests.samples import cloth_with

ONE = Number(1)


def read(array, *indexes):
    return Read(array, list(indexes))


class Judging(unittest.TestCase):
    def passes(self, cloth, steps):
        kept = list(steps)
        for again in range(2):
            self.assertIsNone(judge(cloth, steps))
        self.assertIsNone(judge(cloth=cloth, steps=steps))
        self.assertEqual(steps, kept)

    def refuses(self, cloth, steps, pairs):
        """pairs are all that may be told: (first, second), the first being the one that is needed."""
        kept = list(steps)
        for again in range(2):
            with self.assertRaises(Clash) as caught:
                judge(cloth, steps)
            clash = caught.exception
            self.assertIn((clash.first, clash.second), pairs)
            self.assertEqual((clash.array, clash.cell), (cloth.lines[clash.first[0]].name, clash.first[2]))
            self.assertEqual([type(value) for value in (clash.first, clash.second, clash.array, clash.cell)],
                             [tuple, tuple, str, tuple])
            self.assertGreater(steps.index(clash.first), steps.index(clash.second))
        self.assertEqual(steps, kept)

    def check(self, cloth, steps):
        """Against the plain needs; tells whether the order was let by."""
        places = {step: place for place, step in enumerate(steps)}
        order = plain_order(cloth)
        needs = [(order[i], order[j]) for i, j in plain_needs(cloth)]
        pairs = [(first, second) for first, second in needs if places[first] > places[second]]
        if pairs:
            self.refuses(cloth, steps, pairs)
        else:
            self.passes(cloth, steps)
        return not pairs


class Orders(Judging):
    def test_the_first_order(self):
        running = Guard("y", 1, 3, read("b", ("y", -1)), ONE)
        for lines in ([Line("b", ["y"], [], ONE)], [Line("b", ["y"], [], running)], [Line("b", ["x"], ["k"], ONE)],
                      [Line("b", [], ["k"], ONE), Line("c", ["x"], [], read("b"))]):
            cloth = cloth_with(*lines)
            self.passes(cloth, first_order(cloth))

    def test_a_cloth_without_lines(self):
        self.passes(Cloth(10, {"x": 2}, {"a": ["x"]}, ["a"], [], ["a"]), [])

    def test_steps_that_need_nothing_in_any_order(self):
        term = Plus(read("a", ("x", 0)), read("a", ("", 0)))
        cloth = cloth_with(Line("b", ["x"], [], term), Line("c", ["x"], [], term), tables={"a": ["x"]})
        order = first_order(cloth)
        self.passes(cloth, order[::-1])
        self.passes(cloth, order[2:] + order[:2])

    def test_a_step_ahead_of_one_that_it_needs(self):
        cloth = cloth_with(Line("b", [], [], ONE), Line("c", [], [], read("b")))
        needed, later = (0, "set", (), ()), (1, "set", (), ())
        self.passes(cloth, [needed, later])
        with self.assertRaises(Clash) as caught:
            judge(cloth, [later, needed])
        clash = caught.exception
        self.assertEqual((clash.first, clash.second, clash.array, clash.cell), (needed, later, "b", ()))

    def test_the_cell_and_the_line_of_the_one_that_is_needed(self):
        cloth = cloth_with(Line("b", ["y"], [], ONE), Line("c", ["x"], [], Plus(read("b", ("", 2)), ONE)))
        order = first_order(cloth)
        # The cell (2,) of b comes right behind the cell (0,) of c, which reads it.
        steps = order[:2] + [order[3], order[2], order[4]]
        with self.assertRaises(Clash) as caught:
            judge(cloth, steps)
        clash = caught.exception
        self.assertEqual((clash.first, clash.second), ((0, "set", (2,), ()), (1, "set", (0,), ())))
        self.assertEqual((clash.array, clash.cell), ("b", (2,)))
        self.refuses(cloth, steps, [(order[2], order[3])])

    def test_only_the_cell_that_is_read_counts(self):
        cloth = cloth_with(Line("b", ["y"], [], ONE), Line("c", ["y"], [], read("b", ("y", 0))))
        b, c = first_order(cloth)[:3], first_order(cloth)[3:]
        self.passes(cloth, [b[2], c[2], b[0], b[1], c[1], c[0]])
        self.refuses(cloth, [b[2], c[1], b[0], b[1], c[2], c[0]], [(b[1], c[1])])

    def test_an_add_ahead_of_its_start(self):
        cloth = cloth_with(Line("b", [], ["k"], ONE))
        start, first, second = first_order(cloth)
        self.refuses(cloth, [first, start, second], [(start, first)])
        self.refuses(cloth, [second, start, first], [(start, second)])
        self.refuses(cloth, [first, second, start], [(start, first), (start, second)])

    def test_an_add_ahead_of_the_start_of_another_cell(self):
        cloth = cloth_with(Line("b", ["x"], ["m"], ONE))
        start, add, other_start, other_add = first_order(cloth)
        self.passes(cloth, [other_start, other_add, start, add])
        self.passes(cloth, [start, other_start, other_add, add])
        self.refuses(cloth, [start, other_add, other_start, add], [(other_start, other_add)])

    def test_adds_ahead_of_the_start_of_another_line(self):
        cloth = cloth_with(Line("b", [], ["m"], ONE), Line("c", [], ["m"], ONE))
        start, add, other_start, other_add = first_order(cloth)
        self.passes(cloth, [other_start, other_add, start, add])
        self.refuses(cloth, [other_add, other_start, start, add], [(other_start, other_add)])

    def test_adds_exchanged(self):
        cloth = cloth_with(Line("b", ["x"], ["y"], Place("y")))
        order = first_order(cloth)
        self.passes(cloth, [order[0]] + order[3:0:-1] + [order[4]] + order[7:4:-1])
        self.passes(cloth, [order[4], order[0], order[7], order[2], order[5], order[1], order[6], order[3]])

    def test_a_read_ahead_of_the_last_add(self):
        cloth = cloth_with(Line("b", [], ["k"], ONE), Line("c", [], [], read("b")))
        start, first, second, last = first_order(cloth)
        self.passes(cloth, [start, second, first, last])
        self.refuses(cloth, [start, first, last, second], [(second, last)])
        self.refuses(cloth, [start, second, last, first], [(first, last)])
        self.refuses(cloth, [start, last, first, second], [(first, last), (second, last)])
        self.refuses(cloth, [last, start, first, second], [(start, last), (first, last), (second, last)])

    def test_an_add_that_reads(self):
        cloth = cloth_with(Line("b", ["x"], [], ONE), Line("c", [], ["x"], read("b", ("x", 0))))
        zero, one, start, first, second = first_order(cloth)
        # The start reads nothing, and each add only its own cell of b.
        self.passes(cloth, [start, one, second, zero, first])
        self.refuses(cloth, [start, one, first, zero, second], [(zero, first)])
        self.refuses(cloth, [zero, one, first, start, second], [(start, first)])

    def test_a_line_that_reads_itself_turned_round(self):
        cloth = cloth_with(Line("b", ["y"], [], Guard("y", 1, 3, read("b", ("y", -1)), ONE)))
        zero, one, two = first_order(cloth)
        self.passes(cloth, [zero, one, two])
        self.refuses(cloth, [two, one, zero], [(zero, one), (one, two)])
        self.refuses(cloth, [zero, two, one], [(one, two)])
        self.refuses(cloth, [one, zero, two], [(zero, one)])
        self.refuses(cloth, [two, zero, one], [(one, two)])

    def test_a_line_with_sums_that_reads_itself(self):
        cloth = cloth_with(Line("b", ["x"], ["k"], Guard("x", 1, 2, read("b", ("x", -1)), ONE)))
        order = first_order(cloth)
        self.passes(cloth, order[3:4] + order[:3] + order[:3:-1])
        self.refuses(cloth, order[:2] + order[3:5] + [order[2], order[5]], [(order[2], order[4])])

    def test_a_read_on_the_other_side_of_a_guard(self):
        term = Guard("x", 0, 1, read("b", ("", 0)), read("b", ("", 1)))
        cloth = cloth_with(Line("b", ["x"], [], ONE), Line("c", ["x"], [], term))
        b_zero, b_one, c_zero, c_one = first_order(cloth)
        self.passes(cloth, [b_one, c_one, b_zero, c_zero])
        self.refuses(cloth, [b_one, c_zero, b_zero, c_one], [(b_zero, c_zero)])

    def test_one_cell_read_twice(self):
        cloth = cloth_with(Line("b", [], [], ONE), Line("c", [], [], Plus(read("b"), read("b"))))
        order = first_order(cloth)
        self.passes(cloth, order)
        self.refuses(cloth, order[::-1], [(order[0], order[1])])

    def test_the_cell_of_a_table_with_the_numbers_of_a_line_s_cell(self):
        cloth = cloth_with(Line("b", ["x"], [], ONE), Line("c", ["x"], [], read("a", ("x", 0))), tables={"a": ["x"]})
        self.passes(cloth, first_order(cloth)[::-1])

    def test_a_clash_is_a_refusal(self):
        cloth = cloth_with(Line("b", [], [], ONE), Line("c", [], [], read("b")))
        with self.assertRaises(LoomError) as caught:
            judge(cloth, first_order(cloth)[::-1])
        self.assertIs(type(caught.exception), Clash)

    def test_asked_again_behind_a_refusal(self):
        cloth = cloth_with(Line("b", [], [], ONE), Line("c", [], [], read("b")))
        order = first_order(cloth)
        for again in range(2):
            self.refuses(cloth, order[::-1], [(order[0], order[1])])
            self.passes(cloth, order)

    def test_the_asker_changes_the_list_later(self):
        cloth = cloth_with(Line("b", [], [], ONE), Line("c", [], [], read("b")))
        steps = first_order(cloth)
        self.passes(cloth, steps)
        steps.reverse()
        self.refuses(cloth, steps, [(steps[1], steps[0])])
        self.passes(cloth, first_order(cloth))

    def test_far_more_needs_than_are_told(self):
        # One cell of 2000 adds, which 1950 cells read: some four million needs.
        lines = [Line("b", [], ["k", "m"], ONE), Line("c", ["x", "y"], [], Plus(read("b"), read("b")))]
        cloth = cloth_with(*lines, lengths={"k": 50, "m": 40, "x": 50, "y": 39})
        order = first_order(cloth)
        self.assertEqual(len(order), 1 + 2000 + 1950)
        self.passes(cloth, order[:1] + order[2000:0:-1] + order[2001:])
        steps = order[:777] + order[778:2500] + order[777:778] + order[2500:]
        self.refuses(cloth, steps, [(order[777], step) for step in order[2001:2500]])


class OrdersOfNests(Judging):
    def judged(self, cloth, *moves):
        return self.check(cloth, steps_of(planned(cloth, list(moves))))

    def test_a_swap(self):
        ahead = Guard("x", 1, 5, read("b", ("x", -1), ("y", 0)), ONE)
        # What is needed stands ahead at x, and at y not behind: either loop may stand outside.
        self.assertTrue(self.judged(cloth_with(Line("b", ["x", "y"], [], ahead)), ("swap", 0)))
        aslant = Guard("x", 1, 5, Guard("y", 0, 2, read("b", ("x", -1), ("y", 1)), ONE), ONE)
        cloth = cloth_with(Line("b", ["x", "y"], [], aslant))
        self.assertTrue(self.judged(cloth))
        self.assertFalse(self.judged(cloth, ("swap", 0)))
        self.assertTrue(self.judged(cloth, ("swap", 0), ("swap", 1)))

    def test_a_swap_of_sums(self):
        cloth = cloth_with(Line("b", ["x"], ["y", "k"], Plus(Place("y"), Place("k"))))
        self.assertTrue(self.judged(cloth, ("swap", 2)))

    def test_a_cut(self):
        running = Guard("x", 1, 7, read("b", ("x", -1)), ONE)
        cloth = cloth_with(Line("b", ["x"], ["k"], running), lengths={"x": 7, "k": 2})
        for width in (1, 2, 3, 7, 8, 10 ** 29):
            self.assertTrue(self.judged(cloth, ("cut", 0, width)))
            self.assertTrue(self.judged(cloth, ("cut", 2, width)))

    def test_tiles(self):
        both = Plus(Guard("x", 1, 5, read("b", ("x", -1), ("y", 0)), ONE),
                    Guard("y", 1, 4, read("b", ("x", 0), ("y", -1)), ONE))
        cloth = cloth_with(Line("b", ["x", "y"], [], both), lengths={"x": 5, "y": 4})
        self.assertTrue(self.judged(cloth, ("cut", 0, 2), ("cut", 1, 3), ("swap", 3)))
        aslant = Guard("x", 1, 5, Guard("y", 0, 3, read("b", ("x", -1), ("y", 1)), ONE), ONE)
        cloth = cloth_with(Line("b", ["x", "y"], [], aslant), lengths={"x": 5, "y": 4})
        self.assertTrue(self.judged(cloth, ("cut", 0, 2), ("cut", 1, 3)))
        self.assertFalse(self.judged(cloth, ("cut", 0, 2), ("cut", 1, 3), ("swap", 3)))
        # Tiles of one row each are the rows.
        self.assertTrue(self.judged(cloth, ("cut", 0, 1), ("cut", 1, 3), ("swap", 3)))

    def test_a_join(self):
        for shift, low, high, wanted in ((0, 0, 4, True), (-1, 1, 4, True), (1, 0, 3, False)):
            term = Guard("x", low, high, read("b", ("x", shift)), ONE)
            cloth = cloth_with(Line("b", ["x"], [], ONE), Line("c", ["x"], [], term), lengths={"x": 4})
            self.assertTrue(self.judged(cloth))
            self.assertEqual(self.judged(cloth, ("join", 0)), wanted)

    def test_a_join_of_sums(self):
        lines = [Line("b", ["x"], ["y"], ONE), Line("c", ["x"], ["y"], read("b", ("x", 0)))]
        self.assertTrue(self.judged(cloth_with(*lines), ("join", 0)))
        # Each cell of c reads all cells of b, of which the later ones are not done yet.
        lines = [Line("b", ["x"], [], ONE), Line("c", ["x"], ["k"], read("b", ("k", 0)))]
        self.assertTrue(self.judged(cloth_with(*lines)))
        self.assertFalse(self.judged(cloth_with(*lines), ("join", 0)))

    def test_a_join_with_the_loop_of_a_sum(self):
        # The loops are 1 of the sum and 3 of c: each cell of c wants the whole of b.
        lines = [Line("b", [], ["y"], ONE), Line("c", ["y"], [], read("b"))]
        self.assertTrue(self.judged(cloth_with(*lines), ("cut", 1, 2), ("cut", 3, 2)))
        self.assertFalse(self.judged(cloth_with(*lines), ("join", 1)))
        lines = [Line("b", [], ["y"], ONE), Line("c", ["y"], [], ONE)]
        self.assertTrue(self.judged(cloth_with(*lines), ("join", 1)))

    def test_of_a_program(self):
        blurred = Plus(Read("a", [("x", 0)]), Guard("x", 1, 6, Read("a", [("x", -1)]), Number(0)))
        summed = Sum("k", Guard("k", 0, 6, Read("b", [("k", 0)]), Number(0)))
        last = Plus(Read("b", [("x", 0)]), Read("c", []))
        lets = [Let("b", ["x"], blurred), Let("c", [], summed), Let("d", ["x"], last)]
        cloth = cloth_of(Program(10, [("x", 6), ("k", 6)], [("a", ["x"])], lets, ["d"]))
        self.assertEqual([line.name for line in cloth.lines], ["b", "c", "d"])
        self.assertTrue(self.judged(cloth, ("cut", 0, 4)))
        # The loop 3 is that of the sum, and the one behind it that of d.
        self.assertFalse(self.judged(cloth, ("join", 3)))

    def test_many_nests_against_the_plain_needs(self):
        mill = Mill(67)
        passed = []
        for again in range(100):
            for cloth in (cloth_of(mill.program()), mill.cloth(), mill.grid()):
                if len(plain_order(cloth)) <= 80:
                    moves, nest = mill.row(first_nest(cloth), mill.dice.randint(1, 8))
                    passed.append(self.check(cloth, steps_of(nest)))
        # A look at the mill itself: many pass and many do not.
        self.assertGreater(min(passed.count(True), passed.count(False)), 15)

    def test_many_orders_against_the_plain_needs(self):
        mill, dice = Mill(71), random.Random(71)
        passed = []
        for again in range(100):
            for cloth in (cloth_of(mill.program()), mill.cloth(), mill.grid()):
                order = plain_order(cloth)
                if 2 <= len(order) <= 60:
                    steps = list(order)
                    for exchange in range(dice.randint(1, 3)):
                        steps.insert(dice.randrange(len(steps)), steps.pop(dice.randrange(len(steps))))
                    passed.append(self.check(cloth, steps))
                    passed.append(self.check(cloth, dice.sample(order, len(order))))
                    self.passes(cloth, sorted_by_needs(cloth, dice))
        # A look at the mill itself: many pass and many do not.
        self.assertGreater(min(passed.count(True), passed.count(False)), 50)


if __name__ == "__main__":
    unittest.main()
