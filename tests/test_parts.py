import unittest

from arrayloom.parts import Part
from arrayloom.parts import parts_of
from arrayloom.parts import sums_at_top
from arrayloom.parts import within_sums
from arrayloom.terms import Guard
from arrayloom.terms import Minus
from arrayloom.terms import Number
from arrayloom.terms import Place
from arrayloom.terms import Plus
from arrayloom.terms import Read
from arrayloom.terms import Sum
from arrayloom.terms import Times


def told(term):
    """The parts as (words, sums, guards), a guard as (axis, inner)."""
    return [(" ".join(part.term.words()), part.sums, [(guard.axis, inner) for guard, inner in part.guards])
            for part in parts_of(term)]


class Parts(unittest.TestCase):
    def test_one_that_stands_alone(self):
        for term in (Number(1), Place("x"), Read("a", [("x", 1)])):
            parts = parts_of(term)
            self.assertEqual(len(parts), 1)
            self.assertIs(parts[0].term, term)
            self.assertEqual((parts[0].sums, parts[0].guards), ([], []))

    def test_pairs(self):
        for kind, sign in ((Plus, "+"), (Minus, "-"), (Times, "*")):
            self.assertEqual(told(kind(kind(Number(1), Number(2)), Number(3))), [
                (f"{sign} {sign} 1 2 3", [], []), (f"{sign} 1 2", [], []), ("1", [], []), ("2", [], []),
                ("3", [], [])])

    def test_sums_from_the_outermost_in(self):
        self.assertEqual(told(Sum("x", Plus(Number(1), Sum("y", Number(2))))), [
            ("sum x + 1 sum y 2", [], []), ("+ 1 sum y 2", ["x"], []), ("1", ["x"], []), ("sum y 2", ["x"], []),
            ("2", ["x", "y"], [])])

    def test_guards_from_the_outermost_in(self):
        term = Guard("x", 0, 1, Guard("y", 0, 1, Number(1), Number(2)), Number(3))
        self.assertEqual(told(term)[1:], [
            ("if y 0 1 1 2", [], [("x", True)]), ("1", [], [("x", True), ("y", True)]),
            ("2", [], [("x", True), ("y", False)]), ("3", [], [("x", False)])])

    def test_what_stands_round_one_does_not_stand_round_the_next(self):
        term = Plus(Sum("k", Guard("k", 0, 1, Number(1), Number(2))), Number(3))
        self.assertEqual(told(term), [
            ("+ sum k if k 0 1 1 2 3", [], []), ("sum k if k 0 1 1 2", [], []), ("if k 0 1 1 2", ["k"], []),
            ("1", ["k"], [("k", True)]), ("2", ["k"], [("k", False)]), ("3", [], [])])

    def test_one_object_in_several_places(self):
        read = Read("a", [])
        parts = parts_of(Plus(read, Sum("k", Guard("x", 0, 1, read, read))))
        places = [(part.sums, [inner for guard, inner in part.guards]) for part in parts if part.term is read]
        self.assertEqual(places, [([], []), (["k"], [True]), (["k"], [False])])

    def test_the_order_of_words(self):
        term = Guard("x", 1, 2, Minus(Read("a", []), Sum("k", Read("b", []))), Times(Read("c", []), Read("d", [])))
        heads = [part.term.words()[0] for part in parts_of(term)]
        self.assertEqual(heads, ["if", "-", "a[]", "sum", "b[]", "*", "c[]", "d[]"])

    def test_five_hundred_parts_and_some_more(self):
        parts = [Number(1)] * 300
        while len(parts) > 1:
            pairs = [Plus(left, right) for left, right in zip(parts[0::2], parts[1::2])]
            parts = pairs + parts[2 * len(pairs):]
        self.assertEqual(len(parts_of(parts[0])), 599)

    def test_deep_ones(self):
        term = Number(1)
        for depth in range(60):
            term = Plus(Number(depth), term)
        self.assertEqual(len(parts_of(term)), 121)


class SumsAtTop(unittest.TestCase):
    def test_none(self):
        for term in (Number(1), Plus(Sum("k", Number(1)), Number(1)), Guard("x", 0, 1, Sum("k", Number(1)), Number(1))):
            self.assertEqual(sums_at_top(term), [])

    def test_from_the_outermost_in_up_to_what_is_no_sum(self):
        self.assertEqual(sums_at_top(Sum("k", Number(1))), ["k"])
        self.assertEqual(sums_at_top(Sum("k", Sum("m", Plus(Number(1), Sum("x", Number(1)))))), ["k", "m"])


class WithinSums(unittest.TestCase):
    def test_what_is_no_sum_stays(self):
        part = Part(Plus(Sum("k", Number(1)), Number(1)), ["x"], [])
        self.assertIs(within_sums(part), part)

    def test_the_innermost_body_with_all_sums_round_it(self):
        body = Plus(Number(1), Sum("m", Number(1)))
        guard = Guard("x", 0, 1, Number(1), Number(2))
        part = Part(Sum("k", Sum("y", body)), ["x"], [(guard, False)])
        within = within_sums(part)
        self.assertIs(within.term, body)
        self.assertEqual((within.sums, within.guards), (["x", "k", "y"], [(guard, False)]))
        self.assertEqual(part.sums, ["x"])


if __name__ == "__main__":
    unittest.main()
