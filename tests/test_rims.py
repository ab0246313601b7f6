import unittest

from arrayloom.errors import BeyondRim
from arrayloom.errors import NotYet
from arrayloom.programs import Let
from arrayloom.programs import Program
from arrayloom.rims import look
from arrayloom.terms import Guard
from arrayloom.terms import Number
from arrayloom.terms import Place
from arrayloom.terms import Plus
from arrayloom.terms import Read
from arrayloom.terms import Sum
from arrayloom.terms import Times
from tests.samples import one_let
from tests.samples import refusal_of
from tests.samples import weave

ONE = Number(1)
THIRTY = 987654321098765432109876543210
# Of the samples: x is 4 long, y 3, k 2, m 5; the table a has the axis x, g the axes x and y, n none; the let is b.


def beyond(array, spot, cell, name="b"):
    return ("BeyondRim", name, array, spot, cell)


def not_yet(spot, cell, name="b"):
    return ("NotYet", name, name, spot, cell)


class Asking(unittest.TestCase):
    def check(self, term, wanted, axes=("x",)):
        self.assertEqual(refusal_of(look, one_let(term, axes)), wanted)


class Rims(Asking):
    def test_within(self):
        self.check(Read("a", [("x", 0)]), None)
        self.check(Read("g", [("x", 0), ("y", 0)]), None, ["x", "y"])
        self.check(Read("n", []), None)
        self.check(Read("n", []), None, [])

    def test_either_end_of_one_axis(self):
        self.check(Read("a", [("x", -1)]), beyond("a", (0,), (-1,)))
        self.check(Read("a", [("x", 1)]), beyond("a", (3,), (4,)))
        self.check(Read("a", [("x", 2)]), beyond("a", (2,), (4,)))
        self.check(Read("a", [("x", -3)]), beyond("a", (0,), (-3,)))

    def test_either_end_of_each_of_two_axes(self):
        for shifts, spot, cell in (((-1, 0), (0, 0), (-1, 0)), ((1, 0), (3, 0), (4, 0)), ((0, -1), (0, 0), (0, -1)),
                                   ((0, 1), (0, 2), (0, 3)), ((1, 1), (0, 2), (1, 3)), ((-1, 1), (0, 0), (-1, 1)),
                                   ((3, 2), (0, 1), (3, 3))):
            read = Read("g", [("x", shifts[0]), ("y", shifts[1])])
            self.check(read, beyond("g", spot, cell), ["x", "y"])

    def test_each_of_three_axes(self):
        axes = [("x", 4), ("y", 3), ("k", 2)]
        for place in range(3):
            for shift in (-1, 1):
                shifts = [shift if other == place else 0 for other in range(3)]
                read = Read("t", [(name, moved) for (name, length), moved in zip(axes, shifts)])
                program = Program(10, axes, [("t", ["x", "y", "k"])], [Let("b", ["x", "y", "k"], read)], ["b"])
                spot = [0, 0, 0]
                spot[place] = 0 if shift < 0 else axes[place][1] - 1
                cell = tuple(number + moved for number, moved in zip(spot, shifts))
                self.assertEqual(refusal_of(look, program), beyond("t", tuple(spot), cell))

    def test_the_first_spot_is_by_the_own_axes_in_their_order(self):
        read = Read("g", [("x", 1), ("y", 1)])
        self.check(read, beyond("g", (0, 2), (1, 3)), ["x", "y"])
        self.check(read, beyond("g", (0, 3), (4, 1)), ["y", "x"])

    def test_a_longer_axis_in_the_place_of_a_shorter_one(self):
        self.check(Read("a", [("m", 0)]), beyond("a", (4,), (4,)), ["m"])
        self.check(Read("a", [("m", -1)]), beyond("a", (0,), (-1,)), ["m"])
        self.check(Read("g", [("y", 0), ("x", 0)]), beyond("g", (3, 0), (0, 3)), ["x", "y"])

    def test_a_shorter_axis_in_the_place_of_a_longer_one(self):
        self.check(Read("a", [("y", 1)]), None, ["y"])
        self.check(Read("a", [("y", 2)]), beyond("a", (2,), (4,)), ["y"])
        self.check(Read("a", [("k", 2)]), None, ["k"])

    def test_own_axes_that_the_read_does_not_have(self):
        self.check(Read("a", [("x", 1)]), beyond("a", (0, 3), (4,)), ["y", "x"])
        self.check(Read("a", [("x", 1)]), beyond("a", (3, 0), (4,)), ["x", "y"])

    def test_one_axis_in_two_indexes(self):
        self.check(Read("g", [("x", 0), ("x", 0)]), beyond("g", (3,), (3, 3)))
        self.check(Read("g", [("y", 1), ("y", 0)]), None, ["y"])

    def test_shifts_of_thirty_figures(self):
        self.check(Read("a", [("x", THIRTY)]), beyond("a", (0,), (THIRTY,)))
        self.check(Read("a", [("x", -THIRTY)]), beyond("a", (0,), (-THIRTY,)))
        self.check(Guard("x", 2, 9, Read("a", [("x", THIRTY)]), ONE), beyond("a", (2,), (THIRTY + 2,)))
        self.check(Read("a", [("", THIRTY)]), beyond("a", (0,), (THIRTY,)))
        self.check(Read("g", [("x", 0), ("", -THIRTY)]), beyond("g", (0,), (0, -THIRTY)))

    def test_an_index_without_an_axis(self):
        for shift in range(4):
            self.check(Read("a", [("", shift)]), None)
        self.check(Read("a", [("", -1)]), beyond("a", (0,), (-1,)))
        self.check(Read("a", [("", 4)]), beyond("a", (0,), (4,)))
        self.check(Read("a", [("", 4)]), beyond("a", (), (4,)), [])
        self.check(Read("g", [("", 3), ("y", 0)]), None, ["y"])
        self.check(Read("g", [("", 4), ("y", 0)]), beyond("g", (0,), (4, 0)), ["y"])

    def test_a_let_ahead(self):
        lets = [Let("b", ["y"], ONE), Let("c", ["x"], Read("b", [("x", 0)]))]
        self.assertEqual(refusal_of(look, weave(lets)), beyond("b", (3,), (3,), "c"))
        lets = [Let("b", ["x"], ONE), Let("c", ["y"], Read("b", [("y", 1)]))]
        self.assertEqual(refusal_of(look, weave(lets)), None)

    def test_axes_of_length_one(self):
        axes, tables = [("x", 1)], [("a", ["x"])]
        for shift, wanted in ((-1, beyond("a", (0,), (-1,))), (0, None), (1, beyond("a", (0,), (1,)))):
            program = Program(10, axes, tables, [Let("b", ["x"], Read("a", [("x", shift)]))], ["b"])
            self.assertEqual(refusal_of(look, program), wanted)

    def test_axes_of_length_sixty(self):
        axes, tables = [("x", 60)], [("a", ["x"])]
        program = Program(10, axes, tables, [Let("b", ["x"], Read("a", [("x", 1)]))], ["b"])
        self.assertEqual(refusal_of(look, program), beyond("a", (59,), (60,)))


class SpotsWithinSums(Asking):
    def test_own_axes_then_the_axes_of_sums(self):
        self.check(Sum("y", Read("g", [("x", 0), ("y", 0)])), None)
        self.check(Sum("y", Read("g", [("x", 0), ("y", 1)])), beyond("g", (0, 2), (0, 3)))
        self.check(Sum("y", Read("g", [("x", 1), ("y", 0)])), beyond("g", (3, 0), (4, 0)))
        self.check(Sum("x", Read("g", [("x", 1), ("y", 0)])), beyond("g", (0, 3), (4, 0)), ["y"])
        self.check(Sum("x", Read("g", [("x", 0), ("y", 1)])), beyond("g", (2, 0), (0, 3)), ["y"])

    def test_sums_from_the_outermost_in(self):
        read = Read("g", [("x", 1), ("y", 0)])
        self.check(Sum("x", Sum("y", read)), beyond("g", (3, 0), (4, 0)), [])
        self.check(Sum("y", Sum("x", read)), beyond("g", (0, 3), (4, 0)), [])
        self.check(Sum("y", Plus(ONE, Sum("k", Times(Sum("x", read), ONE)))), beyond("g", (0, 0, 0, 3), (4, 0)), ["m"])

    def test_only_the_sums_round_the_read(self):
        read = Read("a", [("x", 1)])
        self.check(Plus(Sum("k", ONE), Sum("m", read)), beyond("a", (3, 0), (4,)))
        self.check(Plus(read, Sum("m", ONE)), beyond("a", (3,), (4,)))
        self.check(Sum("k", Plus(Sum("m", ONE), read)), beyond("a", (3, 0), (4,)))

    def test_a_sum_whose_axis_is_not_read(self):
        self.check(Sum("m", Read("a", [("x", 1)])), beyond("a", (3, 0), (4,)))
        self.check(Sum("m", Read("n", [])), None)


class Guards(Asking):
    def test_inner(self):
        read = Read("a", [("x", -1)])
        self.check(Guard("x", 1, 4, read, ONE), None)
        self.check(Guard("x", 0, 4, read, ONE), beyond("a", (0,), (-1,)))
        self.check(Guard("x", 1, 99, read, ONE), None)
        ahead = Read("a", [("x", 2)])
        self.check(Guard("x", 0, 2, ahead, ONE), None)
        self.check(Guard("x", 0, 3, ahead, ONE), beyond("a", (2,), (4,)))
        self.check(Guard("x", 3, 4, ahead, ONE), beyond("a", (3,), (5,)))

    def test_outer(self):
        read = Read("a", [("x", -1)])
        self.check(Guard("x", 0, 1, ONE, read), None)
        self.check(Guard("x", 1, 4, ONE, read), beyond("a", (0,), (-1,)))
        self.check(Guard("x", -5, 1, ONE, read), None)
        self.check(Guard("x", 1, 3, ONE, Read("a", [("x", 1)])), beyond("a", (3,), (4,)))
        self.check(Guard("x", 3, 4, ONE, Read("a", [("x", 1)])), None)

    def test_several(self):
        read = Read("a", [("x", 1)])
        self.check(Guard("x", 1, 4, Guard("x", 0, 3, read, ONE), ONE), None)
        self.check(Guard("x", 1, 4, Guard("x", 0, 3, ONE, read), ONE), beyond("a", (3,), (4,)))
        self.check(Guard("x", 0, 3, ONE, Guard("x", 3, 4, ONE, read)), None)
        self.check(Guard("x", 0, 1, ONE, Guard("x", 2, 4, read, ONE)), beyond("a", (3,), (4,)))
        self.check(Guard("x", 2, 4, Plus(ONE, Guard("x", 0, 3, Read("a", [("x", 2)]), ONE)), ONE),
                   beyond("a", (2,), (4,)))

    def test_on_several_axes(self):
        read = Read("g", [("x", -1), ("y", 1)])
        self.check(Guard("x", 1, 4, Guard("y", 0, 2, read, ONE), ONE), None, ["x", "y"])
        self.check(Guard("x", 1, 4, Guard("y", 0, 2, ONE, read), ONE), beyond("g", (1, 2), (0, 3)), ["x", "y"])
        self.check(Guard("x", 1, 4, ONE, Guard("y", 1, 2, read, ONE)), beyond("g", (0, 1), (-1, 2)), ["x", "y"])

    def test_both_ones_of_a_guard(self):
        inner, outer = Read("a", [("x", -1)]), Read("a", [("x", 1)])
        self.check(Guard("x", 1, 4, inner, outer), None)
        self.check(Guard("x", 0, 3, inner, outer), beyond("a", (0,), (-1,)))
        self.check(Guard("x", 1, 3, inner, outer), beyond("a", (3,), (4,)))

    def test_guards_that_no_number_passes(self):
        read = Read("a", [("x", 100)])
        for low, high in ((2, 2), (3, 1), (4, 9), (-9, 0), (0, 0), (THIRTY, -THIRTY), (THIRTY, THIRTY + 5)):
            self.check(Guard("x", low, high, read, ONE), None)
            self.check(Guard("x", low, high, ONE, read), beyond("a", (0,), (100,)))

    def test_guards_that_every_number_passes(self):
        read = Read("a", [("x", 100)])
        for low, high in ((0, 4), (-1, 5), (-THIRTY, THIRTY)):
            self.check(Guard("x", low, high, read, ONE), beyond("a", (0,), (100,)))
            self.check(Guard("x", low, high, ONE, read), None)

    def test_low_and_high_of_thirty_figures(self):
        read = Read("a", [("x", -1)])
        self.check(Guard("x", 1, THIRTY, read, ONE), None)
        self.check(Guard("x", -THIRTY, 1, ONE, read), None)
        self.check(Guard("x", -THIRTY, 1, read, ONE), beyond("a", (0,), (-1,)))
        self.check(Guard("x", 1, THIRTY, ONE, read), beyond("a", (0,), (-1,)))

    def test_guards_that_shut_one_another_out(self):
        read = Read("a", [("x", 100)])
        self.check(Guard("x", 0, 2, Guard("x", 2, 4, read, ONE), ONE), None)
        self.check(Guard("x", 0, 2, Guard("x", 0, 2, ONE, read), ONE), None)
        self.check(Guard("x", 0, 2, ONE, Guard("x", 0, 2, read, ONE)), None)

    def test_the_axis_of_a_sum(self):
        read = Read("a", [("m", 0)])
        self.check(Sum("m", read), beyond("a", (0, 4), (4,)))
        self.check(Sum("m", Guard("m", 0, 4, read, ONE)), None)
        self.check(Sum("m", Guard("m", 4, 5, ONE, read)), None)
        self.check(Sum("m", Guard("m", 0, 4, ONE, read)), beyond("a", (0, 4), (4,)))
        self.check(Sum("m", Guard("m", 3, 9, Sum("k", read), ONE)), beyond("a", (0, 4, 0), (4,)))

    def test_an_own_axis_round_a_sum_and_within_it(self):
        read = Read("g", [("x", 1), ("y", 0)])
        self.check(Guard("x", 0, 3, Sum("y", read), ONE), None)
        self.check(Sum("y", Guard("x", 0, 3, read, ONE)), None)
        self.check(Sum("y", Guard("x", 0, 3, ONE, read)), beyond("g", (3, 0), (4, 0)))
        self.check(Sum("y", Guard("y", 1, 3, Guard("x", 0, 3, ONE, read), ONE)), beyond("g", (3, 1), (4, 1)))

    def test_a_guard_guards_only_what_stands_in_it(self):
        read = Read("a", [("x", -1)])
        self.check(Plus(Guard("x", 1, 4, read, ONE), read), beyond("a", (0,), (-1,)))
        self.check(Plus(Guard("x", 1, 4, read, ONE), Guard("x", 0, 1, ONE, read)), None)


class OwnReads(Asking):
    def test_cells_ahead(self):
        read = Read("b", [("x", -1)])
        self.check(Guard("x", 1, 4, read, ONE), None)
        self.check(Guard("x", 0, 1, ONE, read), None)
        self.check(Guard("x", 2, 4, Read("b", [("x", -2)]), ONE), None)

    def test_the_cell_itself(self):
        self.check(Read("b", [("x", 0)]), not_yet((0,), (0,)))
        self.check(Guard("x", 2, 4, Read("b", [("x", 0)]), ONE), not_yet((2,), (2,)))
        self.check(Read("b", [("", 0)]), not_yet((0,), (0,)))
        self.check(Read("b", [("x", 0), ("y", 0)]), not_yet((0, 0), (0, 0)), ["x", "y"])

    def test_the_one_cell_of_a_let_without_axes(self):
        self.check(Read("b", []), not_yet((), ()), [])
        self.check(Sum("k", Read("b", [])), not_yet((0,), ()), [])

    def test_a_cell_behind(self):
        self.check(Guard("x", 0, 3, Read("b", [("x", 1)]), ONE), not_yet((0,), (1,)))
        self.check(Guard("x", 1, 3, Read("b", [("x", 1)]), ONE), not_yet((1,), (2,)))
        self.check(Read("b", [("", 3)]), not_yet((0,), (3,)))

    def test_an_index_without_an_axis(self):
        self.check(Guard("x", 1, 4, Read("b", [("", 0)]), ONE), None)
        self.check(Guard("x", 1, 4, Read("b", [("", 1)]), ONE), not_yet((1,), (1,)))
        self.check(Guard("x", 2, 4, Read("b", [("", 1)]), ONE), None)

    def test_ahead_by_the_first_place_that_is_unlike(self):
        both = ["x", "y"]
        up, left = Read("b", [("x", -1), ("y", 1)]), Read("b", [("x", 0), ("y", -1)])
        self.check(Guard("x", 1, 4, Guard("y", 0, 2, up, ONE), ONE), None, both)
        self.check(Guard("y", 1, 3, left, ONE), None, both)
        self.check(Guard("x", 1, 4, Read("b", [("x", -1), ("", 2)]), ONE), None, both)
        down = Read("b", [("x", 1), ("y", -1)])
        self.check(Guard("x", 0, 3, Guard("y", 1, 3, down, ONE), ONE), not_yet((0, 1), (1, 0)), both)
        right = Read("b", [("x", 0), ("y", 1)])
        self.check(Guard("y", 0, 2, right, ONE), not_yet((0, 0), (0, 1)), both)

    def test_the_order_of_the_own_axes_tells_what_is_ahead(self):
        read = Read("b", [("y", -1), ("x", 1)])
        guarded = Guard("y", 1, 3, Guard("x", 0, 3, read, ONE), ONE)
        self.check(guarded, None, ["y", "x"])
        read = Read("b", [("x", 1), ("y", -1)])
        guarded = Guard("y", 1, 3, Guard("x", 0, 3, read, ONE), ONE)
        self.check(guarded, not_yet((0, 1), (1, 0)), ["x", "y"])

    def test_a_swapped_read(self):
        axes = [("x", 3), ("y", 3)]
        program = Program(10, axes, [], [Let("b", ["x", "y"], Read("b", [("y", 0), ("x", 0)]))], ["b"])
        self.assertEqual(refusal_of(look, program), not_yet((0, 0), (0, 0)))
        swapped = Guard("x", 1, 2, Guard("y", 0, 1, Read("b", [("y", 0), ("x", 0)]), ONE), ONE)
        program = Program(10, axes, [], [Let("b", ["x", "y"], swapped)], ["b"])
        self.assertEqual(refusal_of(look, program), None)

    def test_within_sums_at_the_top(self):
        guarded = Guard("x", 1, 4, Read("b", [("x", -1)]), ONE)
        self.check(Sum("k", Sum("m", guarded)), None)
        self.check(Sum("k", Guard("x", 2, 4, Read("b", [("k", 0)]), ONE)), None)
        self.check(Sum("k", Guard("x", 1, 4, Read("b", [("k", 0)]), ONE)), not_yet((1, 1), (1,)))
        self.check(Sum("k", Sum("m", Guard("m", 3, 4, Read("b", [("x", 0)]), ONE))), not_yet((0, 0, 3), (0,)))

    def test_a_let_ahead_is_never_not_yet(self):
        lets = [Let("b", ["x"], ONE), Let("c", ["x"], Guard("x", 0, 3, Read("b", [("x", 1)]), Read("b", [("x", 0)])))]
        self.assertEqual(refusal_of(look, weave(lets)), None)
        self.check(Guard("x", 0, 3, Read("a", [("x", 1)]), Read("a", [("x", 0)])), None)

    def test_beyond_the_rim_ahead_of_not_yet(self):
        self.check(Read("b", [("x", 1)]), beyond("b", (3,), (4,)))
        self.check(Read("b", [("x", -1)]), beyond("b", (0,), (-1,)))
        self.check(Sum("m", Read("b", [("m", 0)])), beyond("b", (0, 4), (4,)))
        self.check(Guard("x", 0, 3, Read("b", [("x", 1)]), ONE), not_yet((0,), (1,)))
        self.check(Guard("x", 3, 4, ONE, Read("b", [("x", 1)])), not_yet((0,), (1,)))


class WhatIsDueFirst(Asking):
    def test_of_two_reads_the_first_one(self):
        low, high = Read("a", [("x", -1)]), Read("a", [("x", 1)])
        for kind in (Plus, Times):
            self.check(kind(low, high), beyond("a", (0,), (-1,)))
            self.check(kind(high, low), beyond("a", (3,), (4,)))
        self.check(Guard("x", 1, 2, low, high), beyond("a", (3,), (4,)))
        self.check(Guard("x", 0, 2, low, high), beyond("a", (0,), (-1,)))
        self.check(Guard("x", 2, 4, high, low), beyond("a", (3,), (4,)))

    def test_by_words_and_not_by_spots(self):
        early, late = Read("a", [("x", -1)]), Read("a", [("x", 1)])
        self.check(Plus(Plus(ONE, Sum("k", late)), early), beyond("a", (3, 0), (4,)))
        self.check(Sum("k", Plus(late, early)), beyond("a", (3, 0), (4,)))

    def test_not_yet_of_the_first_read_ahead_of_beyond_the_rim_of_the_second(self):
        own, rim = Read("b", [("x", 0)]), Read("a", [("x", -1)])
        self.check(Plus(own, rim), not_yet((0,), (0,)))
        self.check(Plus(rim, own), beyond("a", (0,), (-1,)))
        self.check(Plus(own, Read("b", [("x", -1)])), not_yet((0,), (0,)))
        self.check(Plus(Read("b", [("x", -1)]), own), beyond("b", (0,), (-1,)))

    def test_reads_that_are_fine_are_passed_over(self):
        fine, rim = Read("a", [("x", 0)]), Read("a", [("x", 1)])
        self.check(Plus(fine, Plus(Read("n", []), rim)), beyond("a", (3,), (4,)))
        self.check(Plus(Guard("x", 0, 3, rim, fine), Read("g", [("x", 0), ("", 3)])), beyond("g", (0,), (0, 3)))

    def test_of_two_lets_the_first_one(self):
        own, rim = Let("b", ["x"], Read("b", [("x", 0)])), Let("c", ["x"], Read("a", [("x", 1)]))
        fine = Let("d", ["x"], ONE)
        for lets, wanted in (([own, rim], not_yet((0,), (0,))), ([rim, own], beyond("a", (3,), (4,), "c")),
                             ([fine, own, rim], not_yet((0,), (0,))), ([fine, rim], beyond("a", (3,), (4,), "c"))):
            self.assertEqual(refusal_of(look, weave(lets)), wanted)

    def test_terms_of_all_lets_ahead_of_reads(self):
        rim = Let("b", ["x"], Read("a", [("x", 1)]))
        for term, wanted in ((Place("z"), "NoShape"), (Read("q", []), "NoName")):
            self.assertEqual(refusal_of(look, weave([rim, Let("c", ["x"], term)])), (wanted,))

    def test_one_read_object_in_two_places(self):
        read = Read("a", [("x", -1)])
        self.check(Plus(Guard("x", 1, 4, read, ONE), Guard("x", 1, 4, read, ONE)), None)
        self.check(Plus(Guard("x", 1, 4, read, ONE), Guard("x", 1, 4, ONE, read)), beyond("a", (0,), (-1,)))
        self.check(Plus(Guard("x", 1, 4, read, ONE), Sum("k", read)), beyond("a", (0, 0), (-1,)))


class Refusals(unittest.TestCase):
    def test_the_fields_of_beyond_rim(self):
        with self.assertRaises(BeyondRim) as caught:
            look(weave([Let("c", ["y"], Sum("x", Read("g", [("x", 0), ("y", 1)])))]))
        refusal = caught.exception
        self.assertEqual((refusal.name, refusal.array, refusal.spot, refusal.cell), ("c", "g", (2, 0), (0, 3)))
        self.assertEqual((type(refusal.spot), type(refusal.cell)), (tuple, tuple))

    def test_the_fields_of_not_yet(self):
        with self.assertRaises(NotYet) as caught:
            look(weave([Let("c", ["y"], Sum("k", Guard("y", 1, 3, Read("c", [("y", 0)]), ONE)))]))
        refusal = caught.exception
        self.assertEqual((refusal.name, refusal.array, refusal.spot, refusal.cell), ("c", "c", (1, 0), (1,)))
        self.assertEqual((type(refusal.spot), type(refusal.cell)), (tuple, tuple))


class Passing(unittest.TestCase):
    def test_a_program_that_is_let_by_answers_none(self):
        both = Plus(Read("b", [("x", -1), ("y", 0)]), Read("b", [("x", 0), ("y", -1)]))
        grid = Guard("x", 1, 4, Guard("y", 1, 3, both, Read("a", [("x", 0)])), Read("g", [("", 0), ("y", 0)]))
        lets = [Let("b", ["x", "y"], grid), Let("c", [], Sum("x", Sum("y", Read("b", [("x", 0), ("y", 0)]))))]
        program = weave(lets)
        self.assertIsNone(look(program))
        self.assertIsNone(look(program))

    def test_without_lets(self):
        self.assertIsNone(look(weave([])))

    def test_a_refused_one_then_another_one(self):
        shared = Read("a", [("x", 1)])
        bad, good = one_let(shared), one_let(Guard("x", 0, 3, shared, ONE))
        for again in range(2):
            self.assertEqual(refusal_of(look, bad), beyond("a", (3,), (4,)))
            self.assertEqual(refusal_of(look, good), None)


if __name__ == "__main__":
    unittest.main()
