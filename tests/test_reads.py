import unittest

from arrayloom.terms import Guard
from arrayloom.terms import Minus
from arrayloom.terms import Number
from arrayloom.terms import Place
from arrayloom.terms import Plus
from arrayloom.terms import Read
from arrayloom.terms import Sum
from arrayloom.terms import Times
from arrayloom.terms import World


def cell(array, place):
    return Read(array, [("", place)])


class Reads(unittest.TestCase):
    def test_numbers_and_places_read_nothing(self):
        self.assertEqual(Number(3).reads({}, {}), [])
        self.assertEqual(Place("x").reads({"x": 3}, {"x": 4}), [])

    def test_a_read(self):
        self.assertEqual(Read("a", [("x", -1), ("", 2)]).reads({"x": 3}, {}), [("a", (2, 2))])
        self.assertEqual(Read("a", []).reads({}, {}), [("a", ())])

    def test_a_cell_beyond_the_rim_is_told_too(self):
        self.assertEqual(Read("a", [("x", -5)]).reads({"x": 3}, {"x": 4}), [("a", (-2,))])

    def test_the_left_ones_come_ahead(self):
        for pair in (Plus, Minus, Times):
            term = pair(cell("b", 1), cell("a", 0))
            self.assertEqual(term.reads({}, {}), [("b", (1,)), ("a", (0,))])

    def test_the_order_of_writing(self):
        left = Minus(Plus(cell("d", 0), Number(1)), cell("c", 0))
        right = Times(cell("b", 0), Plus(Place("x"), cell("a", 0)))
        read = Plus(left, right).reads({"x": 0}, {})
        self.assertEqual(read, [("d", (0,)), ("c", (0,)), ("b", (0,)), ("a", (0,))])

    def test_each_as_often_as_it_comes(self):
        read = cell("a", 1)
        term = Plus(Times(read, read), Plus(cell("b", 0), cell("a", 1)))
        self.assertEqual(term.reads({}, {}), [("a", (1,)), ("a", (1,)), ("b", (0,)), ("a", (1,))])

    def test_the_turns_of_a_sum(self):
        term = Sum("x", Plus(Read("a", [("x", 1)]), Read("b", [("y", 0)])))
        expected = [("a", (1,)), ("b", (7,)), ("a", (2,)), ("b", (7,)), ("a", (3,)), ("b", (7,))]
        self.assertEqual(term.reads({"y": 7}, {"x": 3}), expected)
        self.assertEqual(term.reads({"y": 7, "x": 2}, {"x": 3, "y": 1}), expected)

    def test_a_sum_over_an_axis_of_length_one(self):
        self.assertEqual(Sum("x", Read("a", [("x", 0)])).reads({}, {"x": 1}), [("a", (0,))])

    def test_sums_within_sums(self):
        term = Sum("x", Sum("y", Read("a", [("x", 0), ("y", 0)])))
        self.assertEqual(term.reads({}, {"x": 2, "y": 2}),
                         [("a", (0, 0)), ("a", (0, 1)), ("a", (1, 0)), ("a", (1, 1))])

    def test_behind_a_sum_the_axis_is_as_at_tells(self):
        read = Read("a", [("x", 0)])
        self.assertEqual(Plus(Sum("x", read), read).reads({"x": 9}, {"x": 2}), [("a", (0,)), ("a", (1,)), ("a", (9,))])

    def test_a_guard_reads_only_the_one_that_is_looked_at(self):
        term = Guard("x", 1, 3, cell("a", 1), Plus(cell("b", 2), cell("b", 2)))
        inner, outer = [("a", (1,))], [("b", (2,)), ("b", (2,))]
        self.assertEqual([term.reads({"x": x}, {}) for x in range(5)], [outer, inner, inner, outer, outer])

    def test_a_guard_at_rims_of_thirty_figures(self):
        low, high = 10 ** 29, 10 ** 29 + 2
        term = Guard("x", low, high, cell("a", 1), cell("b", 2))
        arrays = [term.reads({"x": x}, {})[0][0] for x in (low - 1, low, high - 1, high)]
        self.assertEqual(arrays, ["b", "a", "a", "b"])

    def test_the_other_one_of_a_guard_is_not_asked(self):
        nowhere = Sum("no", Read("a", [("none", 0)]))
        self.assertEqual(Guard("x", 0, 1, Number(1), nowhere).reads({"x": 0}, {}), [])
        self.assertEqual(Guard("x", 0, 1, nowhere, Number(1)).reads({"x": 1}, {}), [])

    def test_a_guard_on_the_axis_of_a_sum(self):
        term = Sum("x", Guard("x", 1, 3, Read("a", [("x", -1)]), cell("b", 0)))
        self.assertEqual(term.reads({"x": 9}, {"x": 4}), [("b", (0,)), ("a", (0,)), ("a", (1,)), ("b", (0,))])

    def test_only_what_is_read_has_a_part_in_the_worth(self):
        term = Sum("x", Guard("x", 1, 3, Read("a", [("x", -1)]), Read("b", [("y", 0)])))
        at, lengths = {"y": 1}, {"x": 4, "y": 2}
        numbers = {}
        for array, read in term.reads(at, lengths):
            numbers.setdefault(array, {})[read] = 5
        self.assertEqual(numbers, {"a": {(0,): 5, (1,): 5}, "b": {(1,): 5}})
        self.assertEqual(term.worth(at, World(100, lengths, numbers)), 20)
        numbers["a"][(2,)] = 50
        numbers["b"][(0,)] = 50
        numbers["c"] = {(0,): 50}
        self.assertEqual(term.worth(at, World(100, lengths, numbers)), 20)


class Asking(unittest.TestCase):
    def whole(self):
        return Plus(Sum("x", Read("a", [("x", 0)])), Guard("x", 0, 1, Sum("y", Read("a", [("y", 0)])), Number(1)))

    def test_at_and_lengths_stay_as_they_were(self):
        for at in ({"x": 0}, {"x": 5, "y": 1}):
            kept, lengths = dict(at), {"x": 2, "y": 3}
            self.whole().reads(at, lengths)
            self.assertEqual((at, lengths), (kept, {"x": 2, "y": 3}))
            self.assertEqual(list(at), list(kept))

    def test_a_told_list_is_the_askers_own(self):
        guard = Guard("x", 0, 9, self.whole(), Number(1))
        for term in (Number(1), Place("x"), Read("a", [("x", 0)]), self.whole(), guard):
            at, lengths = {"x": 0}, {"x": 2, "y": 3}
            expected = list(term.reads(at, lengths))
            told = term.reads(at, lengths)
            later = term.reads(at, lengths)
            told.append("more")
            self.assertEqual(later, expected)
            self.assertEqual(term.reads(at, lengths), expected)
            self.assertEqual(told, expected + ["more"])

    def test_other_lengths_one_after_the_other(self):
        term = self.whole()
        long = [("a", (0,)), ("a", (1,)), ("a", (0,)), ("a", (1,)), ("a", (2,))]
        for again in range(2):
            self.assertEqual(term.reads({"x": 0}, {"x": 2, "y": 3}), long)
            self.assertEqual(term.reads({"x": 0}, {"x": 1, "y": 1}), [("a", (0,)), ("a", (0,))])
            self.assertEqual(term.reads({"x": 1}, {"x": 1, "y": 1}), [("a", (0,))])

    def test_kinds(self):
        told = Read("a", [("x", 0)]).reads({"x": 1}, {})
        self.assertIs(type(told), list)
        self.assertIs(type(told[0]), tuple)
        self.assertIs(type(told[0][1]), tuple)

    def test_arguments_by_name(self):
        self.assertEqual(Read("a", []).reads(at={}, lengths={}), [("a", ())])


if __name__ == "__main__":
    unittest.main()
