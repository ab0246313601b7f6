import unittest

from arrayloom.programs import Let
from arrayloom.programs import Program
from arrayloom.rims import look
from arrayloom.shapes import work_of
from arrayloom.terms import Guard
from arrayloom.terms import Minus
from arrayloom.terms import Number
from arrayloom.terms import Place
from arrayloom.terms import Plus
from arrayloom.terms import Read
from arrayloom.terms import Sum
from arrayloom.terms import Times
from tests.samples import refusal_of
from tests.samples import weave

ONE = Number(1)
# x is 4 long, y 3, k 2, m 5, as in the samples.


def work_of_lets(lets):
    return work_of(weave(lets, tables=[]))


def work_of_term(term, axes=()):
    return work_of_lets([Let("b", list(axes), term)])


class Work(unittest.TestCase):
    def test_one_part(self):
        for term in (ONE, Place("x"), Read("b", [("x", -1)])):
            self.assertEqual(work_of_term(term, ["x"]), 4)

    def test_a_let_without_axes(self):
        self.assertEqual(work_of_term(ONE), 1)
        self.assertEqual(work_of_term(Plus(ONE, ONE)), 3)

    def test_the_cells_of_a_let(self):
        self.assertEqual(work_of_term(ONE, ["x", "y"]), 12)
        self.assertEqual(work_of_term(ONE, ["m", "x", "y"]), 60)

    def test_pairs(self):
        for kind in (Plus, Minus, Times):
            self.assertEqual(work_of_term(kind(ONE, kind(ONE, ONE)), ["x"]), 20)

    def test_a_guard_counts_both(self):
        self.assertEqual(work_of_term(Guard("x", 0, 1, ONE, Plus(ONE, ONE)), ["x"]), 20)
        self.assertEqual(work_of_term(Guard("x", 9, 9, ONE, ONE), ["x"]), 12)

    def test_a_sum_counts_its_length_for_its_body_alone(self):
        self.assertEqual(work_of_term(Sum("m", ONE)), 1 + 5)
        self.assertEqual(work_of_term(Sum("m", ONE), ["x"]), 4 + 20)

    def test_sums_within_sums(self):
        self.assertEqual(work_of_term(Sum("m", Sum("k", ONE))), 1 + 5 + 10)
        self.assertEqual(work_of_term(Sum("k", Sum("m", ONE))), 1 + 2 + 10)
        self.assertEqual(work_of_term(Sum("k", Sum("m", Sum("y", ONE))), ["x"]), 4 * (1 + 2 + 10 + 30))

    def test_sums_side_by_side(self):
        self.assertEqual(work_of_term(Plus(Sum("m", ONE), Sum("m", Place("m")))), 1 + 6 + 6)

    def test_pairs_and_guards_within_sums(self):
        self.assertEqual(work_of_term(Sum("m", Plus(ONE, Sum("k", ONE)))), 1 + 5 + 5 + 5 + 10)
        self.assertEqual(work_of_term(Sum("m", Guard("m", 0, 2, ONE, Times(ONE, ONE)))), 1 + 5 * 5)
        self.assertEqual(work_of_term(Guard("x", 0, 2, Sum("m", ONE), Sum("k", ONE)), ["x"]), 4 * (1 + 1 + 5 + 1 + 2))

    def test_one_object_counts_in_each_place(self):
        shared = Plus(ONE, ONE)
        self.assertEqual(work_of_term(Plus(shared, Sum("m", shared))), 1 + 3 + 1 + 15)

    def test_all_lets_together(self):
        lets = [Let("b", ["x"], ONE), Let("c", [], Sum("m", ONE)), Let("d", ["y", "k"], Plus(ONE, ONE))]
        self.assertEqual(work_of_lets(lets), 4 + 6 + 18)

    def test_tables(self):
        axes = [("x", 4), ("y", 3), ("m", 5)]
        for tables, wanted in (([("n", [])], 1), ([("a", ["x"])], 4), ([("a", ["m", "x", "y"])], 60),
                               ([("a", ["x"]), ("c", ["y"]), ("n", []), ("o", [])], 9), ([], 0)):
            self.assertEqual(work_of(Program(10, axes, tables, [], ["a"])), wanted)

    def test_tables_that_are_not_read_count_too(self):
        program = Program(10, [("x", 4), ("y", 3)], [("a", ["x"]), ("c", ["y"])], [Let("b", ["x"], ONE)], ["b"])
        self.assertEqual(work_of(program), 4 + 3 + 4)

    def test_axes_that_are_not_used_do_not_count(self):
        self.assertEqual(work_of(Program(10, [("x", 60), ("y", 60)], [], [Let("b", [], ONE)], ["b"])), 1)

    def test_a_second_time_and_by_name(self):
        program = weave([Let("b", ["x"], Sum("m", ONE))])
        self.assertEqual((work_of(program), work_of(program), work_of(program=program)), (41, 41, 41))

    def test_great_work_is_counted_at_once(self):
        names = ["p", "q", "r", "s", "t", "u", "v", "w"]
        term = ONE
        for axis in reversed(names[3:]):
            term = Sum(axis, term)
        program = Program(10, [(name, 60) for name in names], [("a", names[:3])], [Let("b", names[:3], term)], ["b"])
        self.assertEqual(work_of(program), 60 ** 3 + sum(60 ** power for power in range(3, 9)))
        self.assertEqual(refusal_of(look, program), ("TooMuch",))


class TooMuch(unittest.TestCase):
    def check(self, program, work, wanted):
        self.assertEqual(work_of(program), work)
        self.assertEqual(refusal_of(look, program), wanted)

    def test_of_tables(self):
        axes = [("x", 50), ("y", 40), ("k", 2)]
        table = ("a", ["x", "y", "k"])
        self.check(Program(10, axes, [table], [], ["a"]), 4000, None)
        self.check(Program(10, axes, [table, ("n", [])], [], ["a"]), 4001, ("TooMuch",))
        self.check(Program(10, axes, [table], [Let("b", [], ONE)], ["a"]), 4001, ("TooMuch",))

    def test_of_lets(self):
        axes = [("x", 50), ("y", 40)]
        lets = [Let("b", ["x", "y"], ONE), Let("c", ["y", "x"], Place("x"))]
        self.check(Program(10, axes, [], lets, ["b"]), 4000, None)
        self.check(Program(10, axes, [], lets + [Let("d", [], ONE)], ["b"]), 4001, ("TooMuch",))

    def test_of_sums(self):
        axes = [("x", 30), ("y", 43), ("w", 50)]
        # Each of the 30 cells of b is 1 part, and 3 parts 43 times.
        summed = Let("b", ["x"], Sum("y", Plus(Place("x"), Place("y"))))
        rest = [Let("c", ["w"], ONE), Let("d", ["w"], ONE)]
        self.check(Program(10, axes, [], [summed], ["b"]), 3900, None)
        self.check(Program(10, axes, [], [summed] + rest, ["b"]), 4000, None)
        self.check(Program(10, axes, [], [summed] + rest + [Let("e", [], ONE)], ["b"]), 4001, ("TooMuch",))

    def test_of_sums_within_sums(self):
        term = Sum("x", Sum("y", Plus(ONE, ONE)))
        fits, above = [("x", 43), ("y", 30)], [("x", 43), ("y", 31)]
        self.check(Program(10, fits, [], [Let("b", [], term)], ["b"]), 1 + 43 + 43 * 30 * 3, None)
        self.check(Program(10, above, [], [Let("b", [], term)], ["b"]), 1 + 43 + 43 * 31 * 3, ("TooMuch",))

    def test_behind_terms(self):
        axes = [("x", 60), ("y", 60), ("k", 60)]
        great = Let("b", ["x", "y", "k"], ONE)
        cases = ((Place("z"), "NoShape"), (Read("q", []), "NoName"), (Sum("z", ONE), "NoShape"), (ONE, "TooMuch"))
        for term, wanted in cases:
            program = Program(10, axes, [], [great, Let("c", [], term)], ["b"])
            self.assertEqual(refusal_of(look, program), (wanted,))

    def test_behind_names(self):
        axes = [("x", 60), ("y", 60)]
        self.assertEqual(refusal_of(look, Program(10, axes, [("a", ["x", "y"] * 2)], [], ["a"])), ("NoShape",))
        self.assertEqual(refusal_of(look, Program(10, axes, [("a", ["x", "y"])] * 2, [], ["a"])), ("NoName",))

    def test_ahead_of_reads(self):
        axes = [("x", 60), ("y", 60)]
        beyond, own = Read("a", [("", 60)]), Read("b", [])
        for term, wanted in ((beyond, ("BeyondRim", "b", "a", (), (60,))), (own, ("NotYet", "b", "b", (), ()))):
            small = Program(10, axes, [("a", ["x"])], [Let("b", [], term)], ["b"])
            self.assertEqual(refusal_of(look, small), wanted)
            great = Let("c", ["x", "y"], Plus(ONE, ONE))
            program = Program(10, axes, [("a", ["x"])], [Let("b", [], term), great], ["b"])
            self.assertEqual(refusal_of(look, program), ("TooMuch",))


if __name__ == "__main__":
    unittest.main()
