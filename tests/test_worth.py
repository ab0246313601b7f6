import unittest

from arrayloom.terms import Guard
from arrayloom.terms import Minus
from arrayloom.terms import Number
from arrayloom.terms import Place
from arrayloom.terms import Plus
from arrayloom.terms import Read
from arrayloom.terms import Sum
from arrayloom.terms import Term
from arrayloom.terms import Times
from arrayloom.terms import World

THIRTY = 987654321098765432109876543210
SIXTY = 987654321098765432109876543210123456789012345678901234567891


def plain_world(wheel=10):
    return World(wheel, {}, {})


def tables_world(wheel=10):
    row = {(0,): 3, (1,): 5, (2,): 7, (3,): 9}
    grid = {(0, 0): 1, (0, 1): 2, (0, 2): 3, (1, 0): 4, (1, 1): 5, (1, 2): 6}
    return World(wheel, {"x": 2, "y": 3, "one": 1}, {"a": row, "g": grid, "n": {(): 8}})


class Numbers(unittest.TestCase):
    def test_a_number(self):
        self.assertEqual(Number(7).worth({}, plain_world()), 7)
        self.assertEqual(Number(0).worth({}, plain_world()), 0)

    def test_the_remainder_by_the_wheel(self):
        self.assertEqual(Number(9).worth({}, plain_world()), 9)
        self.assertEqual(Number(10).worth({}, plain_world()), 0)
        self.assertEqual(Number(123).worth({}, plain_world()), 3)

    def test_the_remainder_of_numbers_below_0(self):
        self.assertEqual(Number(-1).worth({}, plain_world()), 9)
        self.assertEqual(Number(-10).worth({}, plain_world()), 0)
        self.assertEqual(Number(-123).worth({}, plain_world()), 7)

    def test_the_least_wheel(self):
        self.assertEqual([Number(n).worth({}, plain_world(2)) for n in (-3, -2, -1, 0, 1, 2)], [1, 0, 1, 0, 1, 0])

    def test_numbers_and_wheels_of_thirty_figures(self):
        wheel = 10 ** 30 - 1
        self.assertEqual(Number(THIRTY).worth({}, plain_world(wheel)), THIRTY)
        self.assertEqual(Number(-THIRTY).worth({}, plain_world(wheel)), wheel - THIRTY)
        self.assertEqual(Number(-1).worth({}, plain_world(wheel)), wheel - 1)
        self.assertEqual(Number(wheel).worth({}, plain_world(wheel)), 0)
        self.assertEqual(Number(THIRTY).worth({}, plain_world(7)), THIRTY % 7)


class Places(unittest.TestCase):
    def test_a_place(self):
        self.assertEqual(Place("x").worth({"x": 4, "y": 6}, plain_world()), 4)
        self.assertEqual(Place("y").worth({"x": 4, "y": 6}, plain_world()), 6)

    def test_the_remainder(self):
        self.assertEqual(Place("x").worth({"x": 25}, plain_world()), 5)
        self.assertEqual(Place("x").worth({"x": -1}, plain_world()), 9)
        self.assertEqual(Place("x").worth({"x": 10}, plain_world()), 0)

    def test_thirty_figures(self):
        wheel = 10 ** 30 - 1
        self.assertEqual(Place("x").worth({"x": THIRTY}, plain_world(wheel)), THIRTY)
        self.assertEqual(Place("x").worth({"x": -THIRTY}, plain_world(wheel)), wheel - THIRTY)

    def test_the_name_of_the_axis_may_be_any_text(self):
        self.assertEqual(Place("if not").worth({"if not": 3}, plain_world()), 3)


class ReadCells(unittest.TestCase):
    def test_an_index_is_the_axis_and_the_shift_more(self):
        self.assertEqual(Read("a", [("x", 0)]).cell_at({"x": 2}), (2,))
        self.assertEqual(Read("a", [("x", 3)]).cell_at({"x": 2}), (5,))

    def test_a_shift_below_0(self):
        self.assertEqual(Read("a", [("x", -1)]).cell_at({"x": 2}), (1,))
        self.assertEqual(Read("a", [("x", -3)]).cell_at({"x": 2}), (-1,))

    def test_an_index_without_an_axis_is_the_shift_alone(self):
        self.assertEqual(Read("a", [("", 3)]).cell_at({"x": 2}), (3,))
        self.assertEqual(Read("a", [("", 0)]).cell_at({}), (0,))
        self.assertEqual(Read("a", [("", -2)]).cell_at({"": 9}), (-2,))

    def test_several_indexes_in_their_order(self):
        read = Read("a", [("y", 1), ("", 4), ("x", -2), ("y", 0)])
        self.assertEqual(read.cell_at({"x": 10, "y": 20}), (21, 4, 8, 20))

    def test_a_read_without_indexes(self):
        self.assertEqual(Read("a", []).cell_at({"x": 2}), ())

    def test_twelve_indexes_and_great_numbers(self):
        read = Read("a", [("x", -THIRTY)] * 12)
        self.assertEqual(read.cell_at({"x": THIRTY}), (0,) * 12)
        self.assertEqual(read.cell_at({"x": -THIRTY}), (-2 * THIRTY,) * 12)

    def test_the_cell_is_a_tuple(self):
        self.assertIs(type(Read("a", [("x", 0)]).cell_at({"x": 2})), tuple)

    def test_at_stays_as_it_was(self):
        at = {"x": 2}
        Read("a", [("x", 1), ("", 3)]).cell_at(at)
        self.assertEqual(at, {"x": 2})


class ReadWorths(unittest.TestCase):
    def test_the_number_of_the_cell(self):
        self.assertEqual(Read("a", [("x", 0)]).worth({"x": 2}, tables_world()), 7)
        self.assertEqual(Read("a", [("x", 1)]).worth({"x": 2}, tables_world()), 9)
        self.assertEqual(Read("a", [("x", -2)]).worth({"x": 2}, tables_world()), 3)
        self.assertEqual(Read("a", [("", 1)]).worth({"x": 2}, tables_world()), 5)
        self.assertEqual(Read("g", [("x", 0), ("y", -1)]).worth({"x": 1, "y": 2}, tables_world()), 5)

    def test_without_indexes(self):
        self.assertEqual(Read("n", []).worth({}, tables_world()), 8)

    def test_the_remainder_of_what_the_world_has(self):
        world = World(10, {}, {"a": {(0,): -1, (1,): 10, (2,): 123}})
        worths = [Read("a", [("", place)]).worth({}, world) for place in range(3)]
        self.assertEqual(worths, [9, 0, 3])

    def test_table_numbers_of_sixty_figures(self):
        wheel = 10 ** 30 - 1
        world = World(wheel, {}, {"a": {(0,): SIXTY, (1,): -SIXTY}})
        self.assertEqual(Read("a", [("", 0)]).worth({}, world), SIXTY % wheel)
        self.assertEqual(Read("a", [("", 1)]).worth({}, world), wheel - SIXTY % wheel)

    def test_cells_beyond_the_rim_that_the_world_has(self):
        world = World(10, {"x": 1}, {"a": {(-1,): 4}})
        self.assertEqual(Read("a", [("x", -1)]).worth({"x": 0}, world), 4)

    def test_the_cell_is_no_remainder(self):
        world = World(2, {"x": 5}, {"a": {(0,): 0, (4,): 1}})
        self.assertEqual(Read("a", [("x", 0)]).worth({"x": 4}, world), 1)


class Pairs(unittest.TestCase):
    def test_plus(self):
        self.assertEqual(Plus(Number(3), Number(4)).worth({}, plain_world()), 7)
        self.assertEqual(Plus(Number(6), Number(4)).worth({}, plain_world()), 0)
        self.assertEqual(Plus(Number(7), Number(8)).worth({}, plain_world()), 5)
        self.assertEqual(Plus(Number(-7), Number(3)).worth({}, plain_world()), 6)

    def test_minus(self):
        self.assertEqual(Minus(Number(7), Number(3)).worth({}, plain_world()), 4)
        self.assertEqual(Minus(Number(3), Number(7)).worth({}, plain_world()), 6)
        self.assertEqual(Minus(Number(0), Number(1)).worth({}, plain_world()), 9)
        self.assertEqual(Minus(Number(-3), Number(-13)).worth({}, plain_world()), 0)

    def test_times(self):
        self.assertEqual(Times(Number(2), Number(4)).worth({}, plain_world()), 8)
        self.assertEqual(Times(Number(7), Number(8)).worth({}, plain_world()), 6)
        self.assertEqual(Times(Number(-1), Number(3)).worth({}, plain_world()), 7)
        self.assertEqual(Times(Number(5), Number(4)).worth({}, plain_world()), 0)

    def test_pairs_of_pairs(self):
        left = Minus(Place("x"), Times(Number(2), Place("y")))
        term = Plus(left, Minus(Place("y"), Place("x")))
        for x in range(-3, 4):
            for y in range(-3, 4):
                self.assertEqual(term.worth({"x": x, "y": y}, plain_world(11)), (x - 2 * y + y - x) % 11)

    def test_thirty_figures(self):
        wheel = 10 ** 30 - 1
        other = 111111111122222222223333333333
        world = plain_world(wheel)
        self.assertEqual(Plus(Number(THIRTY), Number(other)).worth({}, world), (THIRTY + other) % wheel)
        self.assertEqual(Minus(Number(other), Number(THIRTY)).worth({}, world), (other - THIRTY) % wheel)
        self.assertEqual(Times(Number(THIRTY), Number(other)).worth({}, world), THIRTY * other % wheel)

    def test_the_same_object_in_several_places(self):
        read = Read("a", [("x", 0)])
        double = Plus(read, read)
        term = Times(double, Minus(double, read))
        self.assertEqual(term.worth({"x": 1}, tables_world(1000)), 50)
        self.assertEqual(term.worth({"x": 2}, tables_world(1000)), 98)
        self.assertEqual(double.worth({"x": 3}, tables_world(1000)), 18)

    def test_the_same_object_within_and_outside_a_sum(self):
        place = Place("x")
        term = Plus(Times(Number(100), place), Sum("x", place))
        self.assertEqual(term.worth({"x": 7}, World(1000, {"x": 4}, {})), 706)


class Sums(unittest.TestCase):
    def test_over_an_axis_that_at_does_not_have(self):
        self.assertEqual(Sum("y", Read("a", [("y", 0)])).worth({}, tables_world(100)), 15)
        self.assertEqual(Sum("y", Place("y")).worth({"x": 1}, tables_world(100)), 3)

    def test_over_an_axis_that_at_has(self):
        self.assertEqual(Sum("y", Read("a", [("y", 0)])).worth({"y": 2}, tables_world(100)), 15)
        self.assertEqual(Sum("y", Place("y")).worth({"y": 50}, tables_world(100)), 3)
        self.assertEqual(Sum("y", Place("y")).worth({"y": -1}, tables_world(100)), 3)

    def test_other_axes_are_as_at_tells(self):
        term = Sum("y", Read("g", [("x", 0), ("y", 0)]))
        self.assertEqual(term.worth({"x": 0}, tables_world(100)), 6)
        self.assertEqual(term.worth({"x": 1}, tables_world(100)), 15)

    def test_the_body_counts_once_a_turn(self):
        self.assertEqual(Sum("y", Number(5)).worth({}, tables_world(100)), 15)
        self.assertEqual(Sum("one", Number(5)).worth({}, tables_world(100)), 5)
        self.assertEqual(Sum("one", Place("one")).worth({}, tables_world(100)), 0)

    def test_the_remainder_of_the_sum(self):
        self.assertEqual(Sum("y", Number(9)).worth({}, tables_world(10)), 7)
        self.assertEqual(Sum("y", Number(-1)).worth({}, tables_world(10)), 7)
        self.assertEqual(Sum("x", Number(5)).worth({}, tables_world(10)), 0)

    def test_sums_within_sums(self):
        term = Sum("x", Sum("y", Read("g", [("x", 0), ("y", 0)])))
        self.assertEqual(term.worth({}, tables_world(100)), 21)
        product = Times(Sum("x", Place("x")), Sum("y", Place("y")))
        self.assertEqual(product.worth({}, tables_world(100)), 3)

    def test_a_sum_within_a_sum_of_the_same_axis(self):
        term = Sum("y", Plus(Times(Number(10), Place("y")), Sum("y", Place("y"))))
        self.assertEqual(term.worth({"y": 8}, tables_world(1000)), 39)

    def test_the_axis_is_as_at_tells_behind_the_sum(self):
        term = Plus(Sum("y", Place("y")), Times(Number(10), Place("y")))
        self.assertEqual(term.worth({"y": 5}, tables_world(1000)), 53)

    def test_the_longest_axis(self):
        self.assertEqual(Sum("x", Place("x")).worth({}, World(10 ** 6, {"x": 60}, {})), 1770)

    def test_thirty_figures(self):
        wheel = 10 ** 30 - 1
        world = World(wheel, {"x": 60}, {})
        self.assertEqual(Sum("x", Number(THIRTY)).worth({}, world), 60 * THIRTY % wheel)

    def test_four_thousand_parts(self):
        term = Sum("x", Sum("y", Place("y")))
        world = World(10 ** 6, {"x": 60, "y": 60}, {})
        self.assertEqual(term.worth({}, world), 60 * 1770)


class Guards(unittest.TestCase):
    def test_at_the_rims(self):
        guard = Guard("x", 2, 4, Number(1), Number(0))
        worths = [guard.worth({"x": x}, plain_world()) for x in range(0, 7)]
        self.assertEqual(worths, [0, 0, 1, 1, 0, 0, 0])

    def test_rims_below_0(self):
        guard = Guard("x", -2, 1, Number(1), Number(0))
        worths = [guard.worth({"x": x}, plain_world()) for x in range(-4, 4)]
        self.assertEqual(worths, [0, 0, 1, 1, 1, 0, 0, 0])

    def test_between_rims_that_let_nothing_in(self):
        for low, high in ((3, 3), (4, 2)):
            guard = Guard("x", low, high, Number(1), Number(0))
            self.assertEqual([guard.worth({"x": x}, plain_world()) for x in range(1, 6)], [0] * 5)

    def test_rims_of_thirty_figures(self):
        low, high = THIRTY, THIRTY + 10
        guard = Guard("x", low, high, Number(1), Number(0))
        asked = [low - 1, low, low + 1, high - 1, high, high + 1]
        self.assertEqual([guard.worth({"x": x}, plain_world()) for x in asked], [0, 1, 1, 1, 0, 0])
        below = Guard("x", -high, -low, Number(1), Number(0))
        asked = [-high - 1, -high, -high + 1, -low - 1, -low, -low + 1]
        self.assertEqual([below.worth({"x": x}, plain_world()) for x in asked], [0, 1, 1, 1, 0, 0])

    def test_the_number_of_the_axis_is_no_remainder(self):
        guard = Guard("x", 0, 3, Number(1), Number(0))
        self.assertEqual(guard.worth({"x": 11}, plain_world()), 0)
        self.assertEqual(Guard("x", 10, 13, Number(1), Number(0)).worth({"x": 11}, plain_world()), 1)

    def test_the_other_one_is_not_looked_at(self):
        nowhere = Read("nowhere", [("no", 0)])
        inner = Guard("x", 0, 2, Number(6), nowhere)
        outer = Guard("x", 0, 2, nowhere, Number(4))
        self.assertEqual(inner.worth({"x": 1}, plain_world()), 6)
        self.assertEqual(outer.worth({"x": 2}, plain_world()), 4)

    def test_a_read_at_the_rim(self):
        term = Guard("x", 1, 4, Read("a", [("x", -1)]), Number(-1))
        self.assertEqual([term.worth({"x": x}, tables_world()) for x in range(4)], [9, 3, 5, 7])

    def test_the_remainder(self):
        guard = Guard("x", 0, 1, Number(-1), Number(25))
        self.assertEqual(guard.worth({"x": 0}, plain_world()), 9)
        self.assertEqual(guard.worth({"x": 1}, plain_world()), 5)

    def test_on_the_axis_of_a_sum(self):
        term = Sum("x", Guard("x", 1, 3, Place("x"), Number(100)))
        self.assertEqual(term.worth({"x": 9}, World(1000, {"x": 4}, {})), 203)

    def test_guards_on_several_axes(self):
        guard = Guard("x", 0, 2, Guard("y", 1, 2, Number(1), Number(2)), Guard("y", 0, 1, Number(3), Number(4)))
        worths = [guard.worth({"x": x, "y": y}, plain_world()) for x in (1, 2) for y in (0, 1)]
        self.assertEqual(worths, [2, 1, 3, 4])


class Asking(unittest.TestCase):
    def whole(self):
        guarded = Guard("x", 1, 4, Read("a", [("x", -1)]), Sum("y", Place("y")))
        return Plus(guarded, Times(Sum("y", Read("g", [("", 1), ("y", 0)])), Minus(Place("x"), Number(2))))

    def test_two_worlds_one_after_the_other(self):
        term = self.whole()
        small = World(1000, {"y": 2}, {"a": {(0,): 1}, "g": {(1, 0): 5, (1, 1): 7}})
        large = World(1000, {"y": 3}, {"a": {(0,): 2}, "g": {(1, 0): 1, (1, 1): 1, (1, 2): 30}})
        tight = World(5, {"y": 3}, {"a": {(0,): 2}, "g": {(1, 0): 1, (1, 1): 1, (1, 2): 30}})
        for again in range(2):
            self.assertEqual(term.worth({"x": 1}, small), 1000 + 1 - 12)
            self.assertEqual(term.worth({"x": 1}, large), 1000 + 2 - 32)
            self.assertEqual(term.worth({"x": 1}, tight), 0)
            self.assertEqual(term.worth({"x": 0}, small), 1000 + 1 - 24)

    def test_one_dict_that_is_changed_between(self):
        at = {"x": 1}
        self.assertEqual(Place("x").worth(at, plain_world()), 1)
        at["x"] = 2
        self.assertEqual(Place("x").worth(at, plain_world()), 2)

    def test_at_stays_as_it_was(self):
        for at in ({"x": 1}, {"x": 1, "y": 7}, {"y": 7, "x": 0}):
            kept = dict(at)
            self.whole().worth(at, tables_world())
            self.assertEqual(at, kept)
            self.assertEqual(list(at), list(kept))

    def test_the_world_stays_as_it_was(self):
        world = tables_world()
        self.whole().worth({"x": 1}, world)
        fresh = tables_world()
        self.assertEqual((world.wheel, world.lengths, world.numbers), (fresh.wheel, fresh.lengths, fresh.numbers))

    def test_a_worth_is_a_whole_number_below_the_wheel(self):
        for wheel in (2, 3, 10, THIRTY):
            for x in range(4):
                worth = self.whole().worth({"x": x}, tables_world(wheel))
                self.assertIs(type(worth), int)
                self.assertTrue(0 <= worth < wheel)

    def test_five_hundred_parts(self):
        parts = [Number(1)] * 250
        while len(parts) > 1:
            pairs = [Plus(left, right) for left, right in zip(parts[0::2], parts[1::2])]
            parts = pairs + parts[2 * len(pairs):]
        self.assertEqual(parts[0].worth({}, plain_world(1000)), 250)

    def test_twenty_deep(self):
        term = Place("x")
        for depth in range(19):
            term = Minus(Number(depth), term)
        expected = 5
        for depth in range(19):
            expected = depth - expected
        self.assertEqual(term.worth({"x": 5}, plain_world(1000)), expected % 1000)

    def test_arguments_by_name(self):
        self.assertEqual(Number(4).worth(at={}, world=plain_world()), 4)
        self.assertEqual(Read("a", []).cell_at(at={}), ())

    def test_each_is_a_term(self):
        one = Number(1)
        terms = [one, Place("x"), Read("a", []), Plus(one, one), Minus(one, one), Times(one, one), Sum("x", one),
                 Guard("x", 0, 1, one, one)]
        for term in terms:
            self.assertIsInstance(term, Term)
        kinds = [Number, Place, Read, Plus, Minus, Times, Sum, Guard]
        for place, term in enumerate(terms):
            self.assertEqual([isinstance(term, kind) for kind in kinds], [other == place for other in range(8)])


if __name__ == "__main__":
    unittest.main()
