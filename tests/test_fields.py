import unittest

from arrayloom.copies import copied
from arrayloom.terms import Guard
from arrayloom.terms import Minus
from arrayloom.terms import Number
from arrayloom.terms import Place
from arrayloom.terms import Plus
from arrayloom.terms import Read
from arrayloom.terms import Sum
from arrayloom.terms import Times
from arrayloom.terms import World


class WorldFields(unittest.TestCase):
    def test_fields_have_what_was_handed_in(self):
        for world in (World(10, {"x": 2}, {"a": {(0,): -1, (1,): 25}, "n": {}}),
                      World(wheel=10, lengths={"x": 2}, numbers={"a": {(0,): -1, (1,): 25}, "n": {}})):
            self.assertEqual(world.wheel, 10)
            self.assertEqual(world.lengths, {"x": 2})
            self.assertEqual(world.numbers, {"a": {(0,): -1, (1,): 25}, "n": {}})

    def test_kinds(self):
        world = World(10, {"x": 2}, {"a": {(0,): 1}})
        self.assertIs(type(world.lengths), dict)
        self.assertIs(type(world.numbers), dict)
        self.assertIs(type(world.numbers["a"]), dict)

    def test_lengths_that_are_changed_later(self):
        lengths = {"x": 2}
        world = World(10, lengths, {})
        lengths["x"] = 5
        lengths["y"] = 3
        self.assertEqual(world.lengths, {"x": 2})
        self.assertEqual(Sum("x", Number(1)).worth({}, world), 2)
        lengths.clear()
        self.assertEqual(Sum("x", Number(1)).worth({}, world), 2)

    def test_numbers_that_are_changed_later(self):
        numbers = {"a": {(0,): 1, (1,): 2}}
        world = World(10, {"x": 2}, numbers)
        numbers["a"] = {(0,): 7, (1,): 7}
        numbers["b"] = {}
        self.assertEqual(world.numbers, {"a": {(0,): 1, (1,): 2}})
        self.assertEqual(Sum("x", Read("a", [("x", 0)])).worth({}, world), 3)
        numbers.clear()
        self.assertEqual(Sum("x", Read("a", [("x", 0)])).worth({}, world), 3)

    def test_the_dicts_within_the_numbers_that_are_changed_later(self):
        row = {(0,): 1, (1,): 2}
        world = World(10, {"x": 2}, {"a": row, "b": row})
        row[(0,)] = 8
        row[(2,)] = 8
        self.assertEqual(world.numbers, {"a": {(0,): 1, (1,): 2}, "b": {(0,): 1, (1,): 2}})
        self.assertEqual(Read("a", [("", 0)]).worth({}, world), 1)
        row.clear()
        self.assertEqual(Read("b", [("", 1)]).worth({}, world), 2)

    def test_what_is_handed_in_stays_as_it_was(self):
        lengths = {"x": 2}
        numbers = {"a": {(0,): -1, (1,): 25}}
        world = World(10, lengths, numbers)
        Sum("x", Read("a", [("x", 0)])).worth({}, world)
        self.assertEqual(lengths, {"x": 2})
        self.assertEqual(numbers, {"a": {(0,): -1, (1,): 25}})

    def test_two_worlds_of_one_dict(self):
        numbers = {"a": {(): 1}}
        first = World(10, {}, numbers)
        numbers["a"][()] = 2
        second = World(10, {}, numbers)
        self.assertEqual(Read("a", []).worth({}, first), 1)
        self.assertEqual(Read("a", []).worth({}, second), 2)


class ReadFields(unittest.TestCase):
    def test_fields_have_what_was_handed_in(self):
        for read in (Read("a", [("x", -1), ("", 3)]), Read(array="a", indexes=[("x", -1), ("", 3)])):
            self.assertEqual(read.array, "a")
            self.assertEqual(read.indexes, [("x", -1), ("", 3)])
            self.assertIs(type(read.indexes), list)
            self.assertEqual([type(index) for index in read.indexes], [tuple, tuple])

    def test_without_indexes(self):
        self.assertEqual(Read("a", []).indexes, [])

    def test_indexes_that_are_changed_later(self):
        indexes = [("x", 1)]
        read = Read("a", indexes)
        world = World(10, {"x": 3}, {"a": {(1,): 4, (0,): 5}})
        for change in (lambda: indexes.append(("", 2)), lambda: indexes.insert(0, ("y", 0)), indexes.clear):
            change()
            self.assertEqual(read.indexes, [("x", 1)])
            self.assertEqual(read.cell_at({"x": 0}), (1,))
            self.assertEqual(read.worth({"x": 0}, world), 4)
            self.assertEqual(read.reads({"x": 0}, {"x": 3}), [("a", (1,))])
            self.assertEqual(read.words(), ["a[x+1]"])

    def test_indexes_stay_as_they_were(self):
        indexes = [("x", 1), ("", -2)]
        read = Read("a", indexes)
        read.cell_at({"x": 0})
        read.words()
        self.assertEqual(indexes, [("x", 1), ("", -2)])

    def test_two_reads_of_one_list(self):
        indexes = [("x", 1)]
        first = Read("a", indexes)
        indexes[0] = ("x", 2)
        second = Read("a", indexes)
        self.assertEqual((first.words(), second.words()), (["a[x+1]"], ["a[x+2]"]))


class OtherFields(unittest.TestCase):
    def test_number_and_place(self):
        self.assertEqual(Number(-123).number, -123)
        self.assertEqual(Number(number=5).number, 5)
        self.assertEqual(Place("x").axis, "x")
        self.assertEqual(Place(axis="y").axis, "y")

    def test_pairs_keep_their_objects(self):
        left, right = Number(1), Place("x")
        for kind in (Plus, Minus, Times):
            for made in (kind(left, right), kind(left=left, right=right)):
                self.assertIs(made.left, left)
                self.assertIs(made.right, right)

    def test_a_sum_keeps_its_body(self):
        body = Number(1)
        for made in (Sum("x", body), Sum(axis="x", body=body)):
            self.assertEqual(made.axis, "x")
            self.assertIs(made.body, body)

    def test_a_guard_keeps_both(self):
        inner, outer = Number(1), Number(2)
        for made in (Guard("x", -3, 4, inner, outer), Guard(axis="x", low=-3, high=4, inner=inner, outer=outer)):
            self.assertEqual((made.axis, made.low, made.high), ("x", -3, 4))
            self.assertIs(made.inner, inner)
            self.assertIs(made.outer, outer)

    def test_one_like_it_is_another_one(self):
        left, right, new = Number(1), Place("x"), Number(2)
        for kind in (Plus, Minus, Times):
            pair = kind(left, right)
            other = pair.made_of(right, new)
            self.assertIs(type(other), kind)
            self.assertEqual((other.left, other.right, pair.left, pair.right), (right, new, left, right))
        guard = Guard("x", -3, 4, left, right)
        other = guard.made_of(right, new)
        self.assertEqual((other.axis, other.low, other.high), ("x", -3, 4))
        self.assertEqual((other.inner, other.outer, guard.inner, guard.outer), (right, new, left, right))

    def test_fields_stay_when_a_term_is_asked(self):
        inner, outer = Read("a", [("x", 0)]), Number(2)
        guard = Guard("x", 0, 1, inner, outer)
        term = Sum("x", guard)
        term.worth({"x": 5}, World(10, {"x": 2}, {"a": {(0,): 3}}))
        term.reads({"x": 5}, {"x": 2})
        term.words()
        self.assertIs(term.body, guard)
        self.assertEqual((term.axis, guard.axis, guard.low, guard.high), ("x", "x", 0, 1))
        self.assertIs(guard.inner, inner)
        self.assertIs(guard.outer, outer)
        self.assertEqual(inner.indexes, [("x", 0)])


class Copies(unittest.TestCase):
    def test_lists_within_lists(self):
        value = [[1, 2], [3, [4]]]
        copy = copied(value)
        value[1][1].append(5)
        value[0].clear()
        self.assertEqual(copy, [[1, 2], [3, [4]]])

    def test_lists_within_tuples(self):
        value = [("a", ["x"]), ()]
        copy = copied(value)
        value[0][1].append("y")
        self.assertEqual(copy, [("a", ["x"]), ()])

    def test_dicts_keep_the_order_of_their_keys(self):
        value = {"b": {(1,): [1]}, "a": {}}
        copy = copied(value)
        value["b"][(1,)].append(2)
        value["a"][()] = 1
        self.assertEqual(copy, {"b": {(1,): [1]}, "a": {}})
        self.assertEqual(list(copy), ["b", "a"])

    def test_objects_are_kept_as_they_are(self):
        term = Number(1)
        self.assertIs(copied([term])[0], term)


if __name__ == "__main__":
    unittest.main()
