import unittest

from arrayloom.terms import Guard
from arrayloom.terms import Minus
from arrayloom.terms import Number
from arrayloom.terms import Place
from arrayloom.terms import Plus
from arrayloom.terms import Read
from arrayloom.terms import Sum
from arrayloom.terms import Times

THIRTY = 987654321098765432109876543210


class Words(unittest.TestCase):
    def test_numbers(self):
        self.assertEqual(Number(0).words(), ["0"])
        self.assertEqual(Number(17).words(), ["17"])
        self.assertEqual(Number(-17).words(), ["-17"])
        self.assertEqual(Number(THIRTY).words(), ["987654321098765432109876543210"])
        self.assertEqual(Number(-THIRTY).words(), ["-987654321098765432109876543210"])

    def test_places(self):
        self.assertEqual(Place("x").words(), ["x"])
        self.assertEqual(Place("a b").words(), ["a b"])

    def test_the_read_that_the_document_shows(self):
        read = Read("a", [("x", -1), ("y", 0), ("z", 2), ("", -3)])
        self.assertEqual(read.words(), ["a[x-1,y,z+2,-3]"])

    def test_shifts_behind_an_axis(self):
        shifts = [0, 1, -1, 12, -12, THIRTY, -THIRTY]
        words = [Read("b", [("x", shift)]).words() for shift in shifts]
        self.assertEqual(words, [
            ["b[x]"], ["b[x+1]"], ["b[x-1]"], ["b[x+12]"], ["b[x-12]"],
            ["b[x+987654321098765432109876543210]"], ["b[x-987654321098765432109876543210]"]])

    def test_shifts_without_an_axis(self):
        words = [Read("b", [("", shift)]).words() for shift in (0, 1, -1, 12, -12, THIRTY)]
        self.assertEqual(words, [
            ["b[0]"], ["b[1]"], ["b[-1]"], ["b[12]"], ["b[-12]"], ["b[987654321098765432109876543210]"]])

    def test_a_read_without_indexes(self):
        self.assertEqual(Read("a", []).words(), ["a[]"])

    def test_indexes_in_their_order(self):
        self.assertEqual(Read("grid", [("y", 0), ("x", 0), ("", 0), ("y", 1)]).words(), ["grid[y,x,0,y+1]"])

    def test_pairs(self):
        self.assertEqual(Plus(Number(1), Place("x")).words(), ["+", "1", "x"])
        self.assertEqual(Minus(Number(1), Place("x")).words(), ["-", "1", "x"])
        self.assertEqual(Times(Number(1), Place("x")).words(), ["*", "1", "x"])

    def test_pairs_within_pairs(self):
        left = Minus(Number(-1), Place("x"))
        right = Plus(Read("a", []), Number(2))
        self.assertEqual(Times(left, right).words(), ["*", "-", "-1", "x", "+", "a[]", "2"])
        self.assertEqual(Times(right, left).words(), ["*", "+", "a[]", "2", "-", "-1", "x"])

    def test_sums(self):
        self.assertEqual(Sum("x", Plus(Place("x"), Number(1))).words(), ["sum", "x", "+", "x", "1"])
        self.assertEqual(Sum("x", Sum("y", Number(0))).words(), ["sum", "x", "sum", "y", "0"])

    def test_guards(self):
        self.assertEqual(Guard("x", 1, 4, Number(5), Place("y")).words(), ["if", "x", "1", "4", "5", "y"])
        self.assertEqual(Guard("x", -4, 0, Number(-5), Plus(Number(1), Number(2))).words(),
                         ["if", "x", "-4", "0", "-5", "+", "1", "2"])
        self.assertEqual(Guard("x", -THIRTY, THIRTY, Number(1), Number(2)).words(),
                         ["if", "x", "-987654321098765432109876543210", "987654321098765432109876543210", "1", "2"])

    def test_the_same_object_in_several_places(self):
        read = Read("a", [("x", 1)])
        self.assertEqual(Guard("x", 0, 1, read, Plus(read, read)).words(),
                         ["if", "x", "0", "1", "a[x+1]", "+", "a[x+1]", "a[x+1]"])

    def test_the_words_of_a_whole_term(self):
        guard = Guard("x", 1, 60, Read("c", [("x", -1)]), Number(0))
        term = Plus(guard, Sum("k", Times(Read("a", [("x", 0), ("k", 0)]), Read("b", [("k", 0), ("", 2)]))))
        self.assertEqual(" ".join(term.words()), "+ if x 1 60 c[x-1] 0 sum k * a[x,k] b[k,2]")


class Asking(unittest.TestCase):
    def test_a_told_list_is_the_askers_own(self):
        one = Number(1)
        terms = [one, Place("x"), Read("a", []), Plus(one, one), Minus(one, one), Times(one, one), Sum("x", one),
                 Guard("x", 0, 1, one, one)]
        for term in terms:
            expected = list(term.words())
            told = term.words()
            later = term.words()
            told.append("more")
            self.assertEqual(later, expected)
            self.assertEqual(term.words(), expected)
            later.clear()
            self.assertEqual(term.words(), expected)
            self.assertEqual(told, expected + ["more"])

    def test_the_kind_of_words(self):
        told = Guard("x", 0, 1, Read("a", [("x", 1)]), Number(1)).words()
        self.assertIs(type(told), list)
        self.assertEqual([type(word) for word in told], [str] * 6)


if __name__ == "__main__":
    unittest.main()
