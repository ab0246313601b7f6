import unittest

from arrayloom.programs import Let
from arrayloom.programs import Program
from arrayloom.rims import look
from arrayloom.shapes import look_terms
from arrayloom.terms import Guard
from arrayloom.terms import Minus
from arrayloom.terms import Number
from arrayloom.terms import Place
from arrayloom.terms import Plus
from arrayloom.terms import Read
from arrayloom.terms import Sum
from arrayloom.terms import Times
from tests.samples import one_let
from tests.samples import refusal_of
from tests.samples import weave

ONE = Number(1)
NO_SHAPE = ("NoShape",)
NO_NAME = ("NoName",)

# The let round these has the axis x; of the sums here the axis is k.
ROUND = {
    "alone": lambda part: part,
    "left": lambda part: Plus(part, ONE),
    "right": lambda part: Times(ONE, part),
    "right of a left one": lambda part: Minus(Plus(ONE, part), ONE),
    "inner": lambda part: Guard("x", 0, 2, part, ONE),
    "outer": lambda part: Guard("x", 0, 2, ONE, part),
    "inner of an outer one": lambda part: Guard("x", 0, 2, ONE, Guard("x", 9, 9, part, ONE)),
    "sum": lambda part: Sum("k", part),
    "right within a sum": lambda part: Sum("k", Plus(ONE, part)),
    "sum on the right": lambda part: Plus(ONE, Sum("k", part)),
    "guard within a sum": lambda part: Sum("k", Guard("k", 0, 1, ONE, part)),
    "sum within a guard": lambda part: Guard("x", 0, 2, ONE, Sum("k", Minus(ONE, part))),
}


class Asking(unittest.TestCase):
    def check(self, term, wanted, axes=("x",)):
        self.assertEqual(refusal_of(look_terms, one_let(term, axes)), wanted)

    def everywhere(self, part, wanted):
        for where, wrapped in ROUND.items():
            with self.subTest(where=where, words=part.words()):
                program = one_let(wrapped(part))
                self.assertEqual(refusal_of(look_terms, program), wanted)
                if wanted is not None:
                    self.assertEqual(refusal_of(look, program), wanted)


class Places(Asking):
    def test_bound(self):
        self.everywhere(Place("x"), None)

    def test_not_bound(self):
        for axis in ("y", "z", "", "a", "b", "if", "X", "not a name" * 4):
            self.everywhere(Place(axis), NO_SHAPE)

    def test_each_own_axis(self):
        for axis in ("m", "x", "y"):
            self.check(Place(axis), None, ("m", "x", "y"))
        self.check(Place("k"), NO_SHAPE, ("m", "x", "y"))
        self.check(Place("x"), NO_SHAPE, ())

    def test_bound_by_a_sum_round_it(self):
        self.check(Sum("k", Place("k")), None)
        self.check(Sum("k", Sum("m", Plus(Place("k"), Place("m")))), None)
        self.check(Sum("k", Guard("x", 0, 1, ONE, Plus(ONE, Place("k")))), None)

    def test_bound_by_a_sum_that_does_not_stand_round_it(self):
        self.check(Plus(Sum("k", Place("k")), Place("k")), NO_SHAPE)
        self.check(Plus(Place("k"), Sum("k", Place("k"))), NO_SHAPE)
        self.check(Guard("x", 0, 1, Sum("k", ONE), Place("k")), NO_SHAPE)
        self.check(Sum("m", Minus(Sum("k", ONE), Place("k"))), NO_SHAPE)


class Guards(Asking):
    def test_bound(self):
        self.everywhere(Guard("x", -5, 3, ONE, ONE), None)

    def test_not_bound(self):
        for axis in ("y", "z", "", "a"):
            self.everywhere(Guard(axis, 0, 1, ONE, ONE), NO_SHAPE)

    def test_bound_by_a_sum_round_it(self):
        self.check(Sum("k", Guard("k", 0, 1, ONE, ONE)), None)
        self.check(Sum("k", Plus(ONE, Sum("m", Guard("k", 0, 1, ONE, ONE)))), None)

    def test_bound_by_a_sum_that_does_not_stand_round_it(self):
        self.check(Guard("k", 0, 1, Sum("k", ONE), ONE), NO_SHAPE)
        self.check(Times(Sum("k", ONE), Guard("k", 0, 1, ONE, ONE)), NO_SHAPE)

    def test_low_and_high_may_be_any(self):
        for low, high in ((3, 3), (5, -5), (-10 ** 29, 10 ** 29), (10 ** 29, -10 ** 29)):
            self.check(Guard("x", low, high, ONE, ONE), None)


class Sums(Asking):
    def test_over_an_axis_that_is_not_bound(self):
        self.everywhere(Sum("y", Place("y")), None)

    def test_over_an_own_axis(self):
        self.everywhere(Sum("x", ONE), NO_SHAPE)
        for axis in ("m", "x", "y"):
            self.check(Sum(axis, ONE), NO_SHAPE, ("m", "x", "y"))

    def test_over_no_axis_of_the_program(self):
        for axis in ("z", "", "a", "b", "sum"):
            self.everywhere(Sum(axis, ONE), NO_SHAPE)

    def test_over_an_axis_of_a_sum_further_out(self):
        self.check(Sum("k", Sum("k", ONE)), NO_SHAPE)
        self.check(Sum("k", Sum("m", Sum("k", ONE))), NO_SHAPE)
        self.check(Sum("k", Sum("m", Sum("m", ONE))), NO_SHAPE)
        self.check(Sum("k", Plus(ONE, Guard("x", 0, 1, ONE, Sum("k", ONE)))), NO_SHAPE)

    def test_the_same_axis_twice_side_by_side(self):
        self.check(Plus(Sum("k", Place("k")), Sum("k", Place("k"))), None)
        self.check(Guard("x", 0, 1, Sum("k", ONE), Sum("k", ONE)), None)
        self.check(Sum("m", Times(Sum("k", ONE), Sum("k", ONE))), None)
        self.check(Plus(Sum("k", Sum("m", ONE)), Sum("m", Sum("k", ONE))), None)

    def test_the_same_axis_in_two_lets(self):
        lets = [Let("b", ["x"], Sum("k", ONE)), Let("c", ["k"], Sum("x", ONE))]
        self.assertEqual(refusal_of(look_terms, weave(lets)), None)

    def test_where_the_program_has_no_axes(self):
        program = Program(10, [], [], [Let("b", [], Sum("k", ONE))], ["b"])
        self.assertEqual(refusal_of(look_terms, program), NO_SHAPE)


class Reads(Asking):
    def test_of_tables(self):
        for read in (Read("a", [("x", 0)]), Read("a", [("", 0)]), Read("g", [("x", -5), ("", 10 ** 29)]),
                     Read("g", [("x", 0), ("x", 0)]), Read("n", [])):
            self.everywhere(read, None)

    def test_of_strangers(self):
        for name in ("q", "", "A", "aa", "if", "sum", "a[]", "stranger" * 5):
            self.everywhere(Read(name, []), NO_NAME)
            self.everywhere(Read(name, [("x", 0)]), NO_NAME)

    def test_of_the_name_of_an_axis(self):
        for name in ("x", "y", "k"):
            self.everywhere(Read(name, []), NO_NAME)
            self.everywhere(Read(name, [("x", 0)]), NO_NAME)

    def test_too_few_and_too_many_indexes(self):
        index = ("x", 0)
        for read in (Read("a", []), Read("a", [index] * 2), Read("a", [index] * 12), Read("g", []), Read("g", [index]),
                     Read("g", [index] * 3), Read("n", [index]), Read("n", [("", 0)])):
            self.everywhere(read, NO_SHAPE)

    def test_an_index_that_is_not_bound(self):
        for axis in ("y", "z", "a", "X", " "):
            self.everywhere(Read("a", [(axis, 0)]), NO_SHAPE)
            self.everywhere(Read("g", [(axis, 0), ("x", 0)]), NO_SHAPE)
            self.everywhere(Read("g", [("", 0), (axis, 0)]), NO_SHAPE)

    def test_an_index_without_an_axis(self):
        self.everywhere(Read("g", [("", 1), ("", 2)]), None)
        self.check(Read("g", [("", 1), ("", 2)]), None, ())

    def test_an_index_bound_by_a_sum_round_it(self):
        self.check(Sum("k", Read("a", [("k", 0)])), None)
        self.check(Sum("k", Plus(ONE, Sum("m", Read("g", [("k", 0), ("m", 0)])))), None)

    def test_an_index_bound_by_a_sum_that_does_not_stand_round_it(self):
        self.check(Plus(Sum("k", ONE), Read("a", [("k", 0)])), NO_SHAPE)
        self.check(Plus(Read("a", [("k", 0)]), Sum("k", ONE)), NO_SHAPE)
        self.check(Guard("x", 0, 1, Sum("k", ONE), Read("a", [("k", 0)])), NO_SHAPE)

    def test_the_axes_of_the_array_need_not_be_those_of_the_indexes(self):
        self.check(Read("a", [("m", 0)]), None, ("m",))
        self.check(Read("g", [("y", 0), ("x", 0)]), None, ("x", "y"))


class ReadsOfLets(Asking):
    def check_lets(self, lets, wanted):
        self.assertEqual(refusal_of(look_terms, weave(lets)), wanted)

    def test_a_let_ahead(self):
        self.check_lets([Let("b", ["x", "y"], ONE), Let("c", ["x"], Read("b", [("x", 0), ("", 1)]))], None)
        self.check_lets([Let("b", [], ONE), Let("c", [], ONE), Let("d", [], Read("b", []))], None)

    def test_a_let_behind(self):
        self.check_lets([Let("b", ["x"], Read("c", [("x", 0)])), Let("c", ["x"], ONE)], NO_NAME)
        self.check_lets([Let("b", [], ONE), Let("c", [], Read("d", [])), Let("d", [], ONE)], NO_NAME)
        self.check_lets([Let("b", ["x"], Read("c", [])), Let("c", ["x"], ONE)], NO_NAME)
        self.check_lets([Let("b", [], Sum("k", Guard("k", 0, 1, ONE, Read("c", [])))), Let("c", [], ONE)], NO_NAME)

    def test_indexes_of_a_let_ahead(self):
        for indexes in ([], [("x", 0)], [("x", 0)] * 3):
            self.check_lets([Let("b", ["x", "y"], ONE), Let("c", ["x"], Read("b", indexes))], NO_SHAPE)

    def test_a_let_ahead_within_any_sum(self):
        read = Read("b", [("k", 0)])
        for term in (Sum("k", read), Plus(ONE, Sum("k", read)), Sum("m", Plus(ONE, Sum("k", read)))):
            self.check_lets([Let("b", ["x"], ONE), Let("c", ["x"], term)], None)

    def test_itself(self):
        read = Read("b", [("x", -1)])
        for term in (read, Plus(ONE, read), Guard("x", 1, 4, read, ONE), Guard("x", 0, 1, ONE, Times(read, read))):
            self.check(term, None)

    def test_itself_with_other_indexes_than_axes(self):
        for indexes in ([], [("x", 0)] * 2):
            self.everywhere(Read("b", indexes), NO_SHAPE)

    def test_itself_within_sums_at_the_top(self):
        read = Read("b", [("x", -1)])
        for term in (Sum("k", read), Sum("k", Sum("m", read)),
                     Sum("k", Sum("m", Plus(ONE, Guard("m", 0, 1, ONE, read)))),
                     Sum("k", Guard("x", 1, 4, Read("b", [("k", -1)]), ONE)), Sum("k", Plus(Sum("m", ONE), read)),
                     Sum("k", Plus(read, Sum("m", ONE)))):
            self.check(term, None)

    def test_itself_within_a_sum_that_does_not_stand_at_the_top(self):
        read = Read("b", [("x", -1)])
        for term in (Plus(ONE, Sum("k", read)), Plus(Sum("k", read), ONE), Guard("x", 1, 4, Sum("k", read), ONE),
                     Guard("x", 1, 4, ONE, Sum("k", read)), Sum("k", Plus(ONE, Sum("m", read))),
                     Sum("k", Guard("k", 0, 1, Sum("m", Guard("x", 0, 1, ONE, read)), ONE)),
                     Plus(ONE, Sum("k", Sum("m", read))), Sum("k", Sum("m", Minus(Sum("y", read), ONE)))):
            self.check(term, NO_SHAPE)

    def test_itself_once_within_a_sum_at_the_top_and_once_not(self):
        read = Read("b", [("x", -1)])
        self.check(Sum("k", Plus(read, Sum("m", ONE))), None)
        self.check(Sum("k", Plus(read, Sum("m", read))), NO_SHAPE)

    def test_a_let_without_axes_that_reads_itself(self):
        self.check(Read("b", []), None, ())
        self.check(Plus(ONE, Sum("k", Read("b", []))), NO_SHAPE, ())


class OneObjectInSeveralPlaces(Asking):
    def test_bound_in_one_place_alone(self):
        place, guard, read = Place("k"), Guard("k", 0, 1, ONE, ONE), Read("a", [("k", 0)])
        for shared in (place, guard, read):
            self.check(Plus(Sum("k", shared), Sum("k", shared)), None)
            self.check(Sum("k", Plus(shared, shared)), None)
            self.check(Plus(Sum("k", shared), shared), NO_SHAPE)
            self.check(Plus(shared, Sum("k", shared)), NO_SHAPE)
            self.check(Guard("x", 0, 1, Sum("k", shared), shared), NO_SHAPE)

    def test_a_sum(self):
        shared = Sum("k", Place("k"))
        self.check(Plus(shared, shared), None)
        self.check(Plus(shared, Sum("m", shared)), None)
        self.check(Plus(shared, Sum("k", Plus(ONE, shared))), NO_SHAPE)

    def test_in_two_lets(self):
        shared = Place("k")
        self.assertEqual(refusal_of(look_terms, weave([Let("b", ["k"], shared), Let("c", ["k"], shared)])), None)
        self.assertEqual(refusal_of(look_terms, weave([Let("b", ["k"], shared), Let("c", ["x"], shared)])), NO_SHAPE)

    def test_a_sum_at_the_top_of_one_let_alone(self):
        shared = Sum("k", Read("c", [("x", -1)]))
        ahead = [Let("c", ["x"], ONE), Let("d", ["x"], Plus(ONE, shared))]
        self.assertEqual(refusal_of(look_terms, weave(ahead)), None)
        self.assertEqual(refusal_of(look_terms, weave([Let("c", ["x"], shared), ahead[1]])), None)
        self.assertEqual(refusal_of(look_terms, weave([Let("c", ["x"], Plus(ONE, shared))])), NO_SHAPE)

    def test_one_read_in_a_let_and_in_the_let_that_it_reads(self):
        shared = Read("c", [("x", -1)])
        lets = [Let("b", ["x"], shared), Let("c", ["x"], shared)]
        self.assertEqual(refusal_of(look_terms, weave(lets)), NO_NAME)
        self.assertEqual(refusal_of(look_terms, weave([lets[1], lets[0]])), None)


class WhatIsDueFirst(Asking):
    def test_left_ahead_of_right(self):
        name, shape = Read("q", []), Place("z")
        for kind in (Plus, Minus, Times):
            self.everywhere(kind(name, shape), NO_NAME)
            self.everywhere(kind(shape, name), NO_SHAPE)

    def test_all_of_the_left_one_ahead_of_the_right_one(self):
        name, shape = Read("q", []), Place("z")
        self.check(Plus(Plus(ONE, Sum("k", Plus(ONE, name))), shape), NO_NAME)
        self.check(Plus(Plus(ONE, Sum("k", Plus(ONE, shape))), name), NO_SHAPE)

    def test_inner_ahead_of_outer(self):
        name, shape = Read("q", []), Place("z")
        self.check(Guard("x", 0, 1, name, shape), NO_NAME)
        self.check(Guard("x", 0, 1, shape, name), NO_SHAPE)
        self.check(Guard("x", 0, 1, Guard("x", 0, 1, ONE, name), shape), NO_NAME)

    def test_a_guard_ahead_of_what_stands_in_it(self):
        name = Read("q", [])
        self.check(Guard("z", 0, 1, name, name), NO_SHAPE)
        self.check(Guard("x", 0, 1, Guard("z", 0, 1, name, ONE), name), NO_SHAPE)

    def test_a_sum_ahead_of_its_body(self):
        self.check(Sum("x", Read("q", [])), NO_SHAPE)
        self.check(Sum("z", Read("q", [])), NO_SHAPE)
        self.check(Sum("k", Sum("k", Read("q", []))), NO_SHAPE)

    def test_the_name_of_a_read_ahead_of_its_indexes(self):
        self.check(Read("q", [("z", 0)] * 5), NO_NAME)
        self.check(Plus(ONE, Sum("k", Read("q", [("z", 0)]))), NO_NAME)

    def test_reads_in_their_order(self):
        self.check(Plus(Read("a", []), Read("q", [])), NO_SHAPE)
        self.check(Plus(Read("q", []), Read("a", [])), NO_NAME)

    def test_let_by_let(self):
        name, shape = Let("b", ["x"], Plus(ONE, Read("q", []))), Let("c", ["x"], Place("z"))
        fine = Let("d", ["x"], ONE)
        self.assertEqual(refusal_of(look_terms, weave([name, shape])), NO_NAME)
        self.assertEqual(refusal_of(look_terms, weave([shape, name])), NO_SHAPE)
        self.assertEqual(refusal_of(look_terms, weave([fine, shape, name])), NO_SHAPE)
        self.assertEqual(refusal_of(look_terms, weave([fine, name])), NO_NAME)


class Passing(Asking):
    def test_reads_beyond_rims_are_not_looked_at_here(self):
        self.check(Read("a", [("x", 100)]), None)
        self.check(Read("b", [("x", 0)]), None)

    def test_a_program_without_lets(self):
        self.assertEqual(refusal_of(look_terms, weave([])), None)

    def test_arguments_by_name(self):
        self.assertIsNone(look_terms(program=weave([])))

    def test_twenty_deep(self):
        good, bad = Place("x"), Place("y")
        for depth in range(19):
            good, bad = Plus(ONE, good), Plus(ONE, bad)
        self.check(good, None)
        self.check(bad, NO_SHAPE)


if __name__ == "__main__":
    unittest.main()
