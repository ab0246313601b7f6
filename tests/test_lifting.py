import unittest

from arrayloom.lifting import cloth_of
from arrayloom.meaning import meaning
from arrayloom.parts import parts_of
from arrayloom.programs import Let
from arrayloom.programs import Program
from arrayloom.rims import look
from arrayloom.steps import first_order
from arrayloom.terms import Guard
from arrayloom.terms import Minus
from arrayloom.terms import Number
from arrayloom.terms import Place
from arrayloom.terms import Plus
from arrayloom.terms import Read
from arrayloom.terms import Sum
from arrayloom.terms import Times
from tests.mill import Mill
from tests.mill import woven
from tests.samples import one_let
from tests.samples import weave

ONE, TWO = Number(1), Number(2)
# Of the samples: x is 4 long, y 3, k 2, m 5; the table a has the axis x, g the axes x and y, n none; the let is b.
AT_X = Read("a", [("x", 0)])
AT_K = Read("a", [("k", 0)])
AT_XY = Read("g", [("x", 0), ("y", 0)])
TABLES = {"a": [3, 1, 4, 1], "g": [0, 1, 2, 3, 4, 5, 6, 7, 8, 9, 1, 1], "n": [7]}


def told_lines(program):
    return [told(line) for line in cloth_of(program).lines]


def told(line):
    return (line.name, line.axes, line.sums, " ".join(line.term.words()))


class Lifting(unittest.TestCase):
    def check(self, term, wanted, axes=("x",)):
        """The lines, the second time too, and that the lines come to the numbers of the meaning."""
        self.check_program(one_let(term, axes), wanted)

    def check_program(self, program, wanted):
        look(program)
        words = [let.term.words() for let in program.lets]
        for again in range(2):
            self.assertEqual(told_lines(program), wanted)
        self.assertEqual([let.term.words() for let in program.lets], words)
        numbers = woven(cloth_of(program), TABLES)
        for name, row in meaning(program, TABLES).items():
            self.assertEqual(numbers[name], row)


class WithoutLifting(Lifting):
    def test_a_let_without_sums(self):
        self.check(ONE, [("b", [], [], "1")], [])
        self.check(Place("x"), [("b", ["x"], [], "x")])
        self.check(Minus(AT_X, Times(ONE, Place("x"))), [("b", ["x"], [], "- a[x] * 1 x")])
        self.check(Guard("x", 1, 4, Read("b", [("x", -1)]), Plus(AT_X, ONE)),
                   [("b", ["x"], [], "if x 1 4 b[x-1] + a[x] 1")])

    def test_own_axes_keep_their_order(self):
        self.check(AT_XY, [("b", ["y", "x"], [], "g[x,y]")], ["y", "x"])
        self.check(ONE, [("b", ["m", "k", "x"], [], "1")], ["m", "k", "x"])

    def test_one_sum_at_the_top(self):
        self.check(Sum("x", AT_X), [("b", [], ["x"], "a[x]")], [])
        self.check(Sum("y", AT_XY), [("b", ["x"], ["y"], "g[x,y]")])

    def test_sums_at_the_top_from_the_outermost_in(self):
        self.check(Sum("y", Sum("x", AT_XY)), [("b", [], ["y", "x"], "g[x,y]")], [])
        self.check(Sum("m", Sum("k", Sum("y", AT_XY))), [("b", ["x"], ["m", "k", "y"], "g[x,y]")])

    def test_a_let_that_reads_itself_within_a_sum_at_the_top(self):
        self.check(Sum("k", Guard("x", 1, 4, Read("b", [("x", -1)]), AT_K)),
                   [("b", ["x"], ["k"], "if x 1 4 b[x-1] a[k]")])


class LiftedSums(Lifting):
    def test_in_the_left_and_in_the_right(self):
        self.check(Plus(Sum("k", AT_K), ONE), [("s0", [], ["k"], "a[k]"), ("b", ["x"], [], "+ s0[] 1")])
        self.check(Minus(ONE, Sum("y", AT_XY)), [("s0", ["x"], ["y"], "g[x,y]"), ("b", ["x"], [], "- 1 s0[x]")])

    def test_in_both(self):
        for kind, sign in ((Plus, "+"), (Minus, "-"), (Times, "*")):
            self.check(kind(Sum("y", AT_XY), Sum("k", AT_K)), [
                ("s0", ["x"], ["y"], "g[x,y]"), ("s1", [], ["k"], "a[k]"), ("b", ["x"], [], f"{sign} s0[x] s1[]")])

    def test_from_left_to_right_through_deeper_pairs(self):
        term = Plus(Times(Sum("k", ONE), Sum("k", TWO)), Minus(Sum("m", ONE), Sum("m", TWO)))
        self.check(term, [("s0", [], ["k"], "1"), ("s1", [], ["k"], "2"), ("s2", [], ["m"], "1"),
                          ("s3", [], ["m"], "2"), ("b", ["x"], [], "+ * s0[] s1[] - s2[] s3[]")])

    def test_straight_over_one_another(self):
        self.check(Plus(Sum("k", Sum("m", Times(Place("k"), Place("m")))), ONE),
                   [("s0", [], ["k", "m"], "* k m"), ("b", ["x"], [], "+ s0[] 1")])
        self.check(Plus(ONE, Sum("m", Sum("k", Sum("y", AT_XY)))),
                   [("s0", ["x"], ["m", "k", "y"], "g[x,y]"), ("b", ["x"], [], "+ 1 s0[x]")])

    def test_one_within_another_with_a_pair_between(self):
        term = Plus(Sum("k", Times(AT_K, Sum("m", Plus(Place("m"), Place("k"))))), ONE)
        self.check(term, [("s0", ["k"], ["m"], "+ m k"), ("s1", [], ["k"], "* a[k] s0[k]"),
                          ("b", ["x"], [], "+ s1[] 1")])

    def test_two_within_one(self):
        term = Minus(Sum("k", Times(Sum("m", Place("m")), Sum("y", AT_XY))), Sum("k", AT_K))
        self.check(term, [("s0", [], ["m"], "m"), ("s1", ["x"], ["y"], "g[x,y]"),
                          ("s2", ["x"], ["k"], "* s0[] s1[x]"), ("s3", [], ["k"], "a[k]"),
                          ("b", ["x"], [], "- s2[x] s3[]")])

    def test_three_deep(self):
        term = Plus(ONE, Sum("k", Plus(TWO, Sum("m", Plus(Place("k"), Sum("y", Times(Place("m"), AT_XY)))))))
        self.check(term, [("s0", ["x", "m"], ["y"], "* m g[x,y]"), ("s1", ["x", "k"], ["m"], "+ k s0[x,m]"),
                          ("s2", ["x"], ["k"], "+ 2 s1[x,k]"), ("b", ["x"], [], "+ 1 s2[x]")])

    def test_rows_of_sums_on_both_sides_of_a_pair(self):
        term = Plus(Sum("k", Sum("m", Plus(ONE, Sum("y", Sum("x", AT_XY))))), ONE)
        self.check(term, [("s0", [], ["y", "x"], "g[x,y]"), ("s1", [], ["k", "m"], "+ 1 s0[]"),
                          ("b", [], [], "+ s1[] 1")], [])

    def test_below_sums_at_the_top(self):
        self.check(Sum("k", Plus(AT_K, Sum("m", Place("m")))),
                   [("s0", [], ["m"], "m"), ("b", ["x"], ["k"], "+ a[k] s0[]")])
        self.check(Sum("m", Sum("k", Times(AT_K, Sum("y", Plus(Place("m"), AT_XY))))),
                   [("s0", ["x", "m"], ["y"], "+ m g[x,y]"), ("b", ["x"], ["m", "k"], "* a[k] s0[x,m]")])

    def test_beside_a_read_of_itself(self):
        term = Plus(Sum("y", AT_XY), Guard("x", 1, 4, Read("b", [("x", -1)]), ONE))
        self.check(term, [("s0", ["x"], ["y"], "g[x,y]"), ("b", ["x"], [], "+ s0[x] if x 1 4 b[x-1] 1")])

    def test_a_line_without_axes(self):
        self.check(Plus(Sum("k", ONE), Sum("m", Read("n", []))),
                   [("s0", [], ["k"], "1"), ("s1", [], ["m"], "n[]"), ("b", [], [], "+ s0[] s1[]")], [])

    def test_an_axis_that_the_body_does_not_have(self):
        self.check(Plus(Sum("m", AT_X), ONE), [("s0", ["x"], ["m"], "a[x]"), ("b", ["x", "y"], [], "+ s0[x] 1")],
                   ["x", "y"])


class LiftedAxes(Lifting):
    def test_places_indexes_and_guards_within(self):
        self.check(Plus(ONE, Sum("k", Place("x"))), [("s0", ["x"], ["k"], "x"), ("b", ["x"], [], "+ 1 s0[x]")])
        self.check(Plus(ONE, Sum("k", Guard("x", 1, 2, ONE, AT_K))),
                   [("s0", ["x"], ["k"], "if x 1 2 1 a[k]"), ("b", ["x"], [], "+ 1 s0[x]")])
        self.check(Plus(ONE, Sum("k", Guard("k", 1, 2, Place("y"), AT_X))),
                   [("s0", ["x", "y"], ["k"], "if k 1 2 y a[x]"), ("b", ["x", "y"], [], "+ 1 s0[x,y]")], ["x", "y"])

    def test_an_index_without_an_axis(self):
        self.check(Plus(ONE, Sum("k", Read("g", [("", 2), ("", 0)]))),
                   [("s0", [], ["k"], "g[2,0]"), ("b", ["x"], [], "+ 1 s0[]")])
        self.check(Plus(ONE, Sum("y", Read("g", [("", 2), ("y", 0)]))),
                   [("s0", [], ["y"], "g[2,y]"), ("b", ["x"], [], "+ 1 s0[]")])

    def test_an_index_with_a_shift(self):
        self.check(Plus(ONE, Sum("k", Read("g", [("k", 2), ("y", 0)]))),
                   [("s0", ["y"], ["k"], "g[k+2,y]"), ("b", ["y"], [], "+ 1 s0[y]")], ["y"])

    def test_the_order_of_the_program_s_axes(self):
        body = Plus(Plus(Place("m"), Place("k")), Plus(Place("x"), Place("y")))
        self.check(Plus(Sum("k", body), ONE), [
            ("s0", ["x", "y", "m"], ["k"], "+ + m k + x y"), ("b", ["m", "y", "x"], [], "+ s0[x,y,m] 1")],
            ["m", "y", "x"])
        program = weave([Let("b", ["x", "m"], Plus(Sum("k", body.left), Place("x")))],
                        axes=[("m", 5), ("k", 2), ("x", 4), ("y", 3)])
        self.check_program(program, [("s0", ["m"], ["k"], "+ m k"), ("b", ["x", "m"], [], "+ s0[m] x")])

    def test_the_axes_of_sums_round_it(self):
        term = Sum("y", Plus(ONE, Sum("m", Plus(TWO, Sum("k", Plus(Place("m"), Plus(Place("y"), Place("k"))))))))
        self.check(term, [("s0", ["y", "m"], ["k"], "+ m + y k"), ("s1", ["y"], ["m"], "+ 2 s0[y,m]"),
                          ("b", ["x"], ["y"], "+ 1 s1[y]")])

    def test_an_axis_comes_once_however_often_it_is_there(self):
        self.check(Plus(ONE, Sum("k", Times(AT_X, Plus(Place("x"), Read("g", [("x", 0), ("k", 0)]))))),
                   [("s0", ["x"], ["k"], "* a[x] + x g[x,k]"), ("b", ["x"], [], "+ 1 s0[x]")])

    def test_more_than_three_axes(self):
        axes = [("x", 2), ("y", 2), ("z", 2), ("k", 2), ("m", 2), ("p", 2)]
        body = Place("x")
        for axis in ("y", "z", "k", "m", "p"):
            body = Plus(body, Place(axis))
        term = Sum("k", Sum("m", Plus(ONE, Sum("p", body))))
        program = weave([Let("b", ["z", "y", "x"], term)], axes=axes, tables=[])
        look(program)
        cloth = cloth_of(program)
        self.assertEqual([told(line) for line in cloth.lines], [
            ("s0", ["x", "y", "z", "k", "m"], ["p"], "+ + + + + x y z k m p"),
            ("b", ["z", "y", "x"], ["k", "m"], "+ 1 s0[x,y,z,k,m]")])
        self.assertEqual(woven(cloth, {})["b"], meaning(program, {})["b"])


class LiftedGuards(Lifting):
    def test_in_the_inner_one(self):
        self.check(Guard("x", 1, 4, Sum("k", Read("g", [("x", -1), ("k", 0)])), ONE),
                   [("s0", ["x"], ["k"], "if x 1 4 g[x-1,k] 0"), ("b", ["x"], [], "if x 1 4 s0[x] 1")])

    def test_in_the_outer_one(self):
        self.check(Guard("x", 3, 4, ONE, Sum("k", Read("g", [("x", 1), ("k", 0)]))),
                   [("s0", ["x"], ["k"], "if x 3 4 0 g[x+1,k]"), ("b", ["x"], [], "if x 3 4 1 s0[x]")])

    def test_in_both(self):
        self.check(Guard("x", -1, 2, Sum("k", ONE), Sum("m", TWO)),
                   [("s0", ["x"], ["k"], "if x -1 2 1 0"), ("s1", ["x"], ["m"], "if x -1 2 0 2"),
                    ("b", ["x"], [], "if x -1 2 s0[x] s1[x]")])

    def test_at_an_axis_that_comes_nowhere_else(self):
        self.check(Guard("y", 0, 2, Sum("k", AT_K), ONE),
                   [("s0", ["y"], ["k"], "if y 0 2 a[k] 0"), ("b", ["x", "y"], [], "if y 0 2 s0[y] 1")], ["x", "y"])
        self.check(Guard("y", 0, 2, ONE, Sum("k", AT_X)),
                   [("s0", ["x", "y"], ["k"], "if y 0 2 0 a[x]"), ("b", ["y", "x"], [], "if y 0 2 1 s0[x,y]")],
                   ["y", "x"])

    def test_guards_within_guards(self):
        term = Guard("x", 1, 4, Guard("y", 0, 2, ONE, Sum("k", Read("g", [("x", -1), ("y", 0)]))), TWO)
        self.check(term, [("s0", ["x", "y"], ["k"], "if x 1 4 if y 0 2 0 g[x-1,y] 0"),
                          ("b", ["x", "y"], [], "if x 1 4 if y 0 2 1 s0[x,y] 2")], ["x", "y"])
        term = Guard("x", 1, 4, ONE, Guard("y", 0, 2, Sum("k", AT_K), TWO))
        self.check(term, [("s0", ["x", "y"], ["k"], "if x 1 4 0 if y 0 2 a[k] 0"),
                          ("b", ["x", "y"], [], "if x 1 4 1 if y 0 2 s0[x,y] 2")], ["x", "y"])

    def test_two_guards_at_one_axis(self):
        term = Guard("x", 1, 4, Guard("x", 0, 3, Sum("y", Minus(Read("g", [("x", 1), ("y", 0)]), Read("g", [
            ("x", -1), ("y", 0)]))), ONE), TWO)
        self.check(term, [("s0", ["x"], ["y"], "if x 1 4 if x 0 3 - g[x+1,y] g[x-1,y] 0 0"),
                          ("b", ["x"], [], "if x 1 4 if x 0 3 s0[x] 1 2")])

    def test_pairs_between_the_guards(self):
        term = Guard("x", 1, 4, Plus(ONE, Guard("y", 0, 2, Times(TWO, Sum("k", AT_K)), ONE)), TWO)
        self.check(term, [("s0", ["x", "y"], ["k"], "if x 1 4 if y 0 2 a[k] 0 0"),
                          ("b", ["x", "y"], [], "if x 1 4 + 1 if y 0 2 * 2 s0[x,y] 1 2")], ["x", "y"])

    def test_a_guard_beside_it_is_not_round_it(self):
        self.check(Plus(Guard("x", 1, 4, ONE, TWO), Sum("k", AT_K)),
                   [("s0", [], ["k"], "a[k]"), ("b", ["x"], [], "+ if x 1 4 1 2 s0[]")])
        self.check(Plus(Guard("x", 1, 4, Sum("k", ONE), TWO), Sum("k", AT_K)),
                   [("s0", ["x"], ["k"], "if x 1 4 1 0"), ("s1", [], ["k"], "a[k]"),
                    ("b", ["x"], [], "+ if x 1 4 s0[x] 2 s1[]")])

    def test_a_guard_within_it_stays_in_its_body(self):
        self.check(Plus(ONE, Sum("m", Guard("m", 0, 4, Read("a", [("m", 0)]), Number(9)))),
                   [("s0", [], ["m"], "if m 0 4 a[m] 9"), ("b", ["x"], [], "+ 1 s0[]")])

    def test_a_guard_between_two_sums(self):
        term = Plus(ONE, Sum("k", Guard("k", 1, 2, Sum("m", Place("m")), TWO)))
        self.check(term, [("s0", ["k"], ["m"], "if k 1 2 m 0"), ("s1", [], ["k"], "if k 1 2 s0[k] 2"),
                          ("b", ["x"], [], "+ 1 s1[]")])
        term = Plus(ONE, Sum("k", Guard("x", 1, 4, TWO, Sum("m", Place("m")))))
        self.check(term, [("s0", ["x"], ["m"], "if x 1 4 0 m"), ("s1", ["x"], ["k"], "if x 1 4 2 s0[x]"),
                          ("b", ["x"], [], "+ 1 s1[x]")])

    def test_guards_round_the_outer_sum_are_round_the_inner_one_too(self):
        inner = Sum("m", Plus(Place("m"), Read("g", [("x", -1), ("k", 0)])))
        term = Guard("x", 1, 4, Sum("k", Guard("k", 0, 1, Number(5), Times(TWO, inner))), ONE)
        self.check(term, [("s0", ["x", "k"], ["m"], "if x 1 4 if k 0 1 0 + m g[x-1,k] 0"),
                          ("s1", ["x"], ["k"], "if x 1 4 if k 0 1 5 * 2 s0[x,k] 0"),
                          ("b", ["x"], [], "if x 1 4 s1[x] 1")])

    def test_round_a_row_of_sums(self):
        self.check(Guard("x", 1, 4, Sum("k", Sum("y", Read("g", [("x", -1), ("y", 0)]))), ONE),
                   [("s0", ["x"], ["k", "y"], "if x 1 4 g[x-1,y] 0"), ("b", ["x"], [], "if x 1 4 s0[x] 1")])

    def test_at_an_axis_of_a_sum_at_the_top(self):
        self.check(Sum("m", Guard("m", 0, 4, Sum("k", Read("a", [("m", 0)])), ONE)),
                   [("s0", ["m"], ["k"], "if m 0 4 a[m] 0"), ("b", ["x"], ["m"], "if m 0 4 s0[m] 1")])
        self.check(Sum("k", Sum("m", Guard("m", 0, 4, TWO, Sum("y", Place("y"))))),
                   [("s0", ["m"], ["y"], "if m 0 4 0 y"), ("b", ["x"], ["k", "m"], "if m 0 4 2 s0[m]")])

    def test_a_branch_that_is_never_looked_at(self):
        self.check(Guard("x", 2, 2, Sum("k", Read("a", [("x", 90)])), AT_X),
                   [("s0", ["x"], ["k"], "if x 2 2 a[x+90] 0"), ("b", ["x"], [], "if x 2 2 s0[x] a[x]")])


class LiftedFromSeveral(Lifting):
    def test_names_go_on_through_all_lets(self):
        lets = [Let("b", ["x"], Plus(Sum("k", AT_K), Sum("y", AT_XY))), Let("c", [], Sum("x", AT_X)),
                Let("d", ["k"], ONE), Let("e", ["k"], Minus(ONE, Sum("m", Plus(TWO, Sum("x", Read("b", [("x", 0)])))))),
                Let("f", [], Times(Sum("k", Read("e", [("k", 0)])), Read("c", [])))]
        self.check_program(weave(lets), [
            ("s0", [], ["k"], "a[k]"), ("s1", ["x"], ["y"], "g[x,y]"), ("b", ["x"], [], "+ s0[] s1[x]"),
            ("c", [], ["x"], "a[x]"), ("d", ["k"], [], "1"),
            ("s2", [], ["x"], "b[x]"), ("s3", [], ["m"], "+ 2 s2[]"), ("e", ["k"], [], "- 1 s3[]"),
            ("s4", [], ["k"], "e[k]"), ("f", [], [], "* s4[] c[]")])

    def test_names_begin_anew_with_each_program(self):
        term = Plus(ONE, Sum("k", AT_K))
        wanted = [("s0", [], ["k"], "a[k]"), ("b", ["x"], [], "+ 1 s0[]")]
        self.check(term, wanted)
        self.check(Plus(term, Sum("m", ONE)), [wanted[0], ("s1", [], ["m"], "1"), ("b", ["x"], [], "+ + 1 s0[] s1[]")])
        self.check(term, wanted)

    def test_more_than_ten(self):
        term = ONE
        for again in range(12):
            term = Plus(term, Sum("k", Number(again)))
        lines = told_lines(one_let(term))
        self.assertEqual([line[0] for line in lines], [f"s{number}" for number in range(12)] + ["b"])
        self.assertEqual([line[3] for line in lines[:12]], [str(number) for number in range(12)])

    def test_one_object_in_several_places(self):
        shared = Sum("k", AT_K)
        self.check(Plus(shared, Guard("x", 1, 2, shared, Times(shared, shared))), [
            ("s0", [], ["k"], "a[k]"), ("s1", ["x"], ["k"], "if x 1 2 a[k] 0"), ("s2", ["x"], ["k"], "if x 1 2 0 a[k]"),
            ("s3", ["x"], ["k"], "if x 1 2 0 a[k]"), ("b", ["x"], [], "+ s0[] if x 1 2 s1[x] * s2[x] s3[x]")])

    def test_one_object_at_the_top_and_further_in(self):
        shared = Sum("k", AT_K)
        lets = [Let("b", ["x"], shared), Let("c", [], Plus(shared, ONE)), Let("d", [], Sum("m", Times(shared, TWO)))]
        self.check_program(weave(lets), [
            ("b", ["x"], ["k"], "a[k]"), ("s0", [], ["k"], "a[k]"), ("c", [], [], "+ s0[] 1"),
            ("s1", [], ["k"], "a[k]"), ("d", [], ["m"], "* s1[] 2")])

    def test_one_object_with_sums_within_in_several_lets(self):
        shared = Plus(ONE, Sum("k", Plus(AT_K, Sum("m", Place("k")))))
        lets = [Let("b", ["x"], shared), Let("c", ["x"], Guard("x", 0, 1, TWO, shared))]
        self.check_program(weave(lets), [
            ("s0", ["k"], ["m"], "k"), ("s1", [], ["k"], "+ a[k] s0[k]"), ("b", ["x"], [], "+ 1 s1[]"),
            ("s2", ["x", "k"], ["m"], "if x 0 1 0 k"), ("s3", ["x"], ["k"], "if x 0 1 0 + a[k] s2[x,k]"),
            ("c", ["x"], [], "if x 0 1 2 + 1 s3[x]")])

    def test_one_object_within_two_other_sums(self):
        shared = Sum("k", Place("k"))
        self.check(Plus(Sum("m", Plus(shared, Place("m"))), Sum("y", Times(shared, shared))), [
            ("s0", [], ["k"], "k"), ("s1", [], ["m"], "+ s0[] m"), ("s2", [], ["k"], "k"), ("s3", [], ["k"], "k"),
            ("s4", [], ["y"], "* s2[] s3[]"), ("b", ["x"], [], "+ s1[] s4[]")])

    def test_fields_of_the_lets_stay(self):
        inner = Sum("k", Plus(AT_K, Sum("m", Place("k"))))
        term = Guard("x", 1, 4, inner, ONE)
        let = Let("b", ["x"], term)
        program = weave([let])
        cloth_of(program)
        self.assertIs(program.lets[0], let)
        self.assertIs(let.term, term)
        self.assertEqual((term.axis, term.low, term.high), ("x", 1, 4))
        self.assertIs(term.inner, inner)
        self.assertIs(term.outer, ONE)
        self.assertEqual((inner.axis, inner.body.words()), ("k", ["+", "a[k]", "sum", "m", "k"]))

    def test_two_cloths_share_no_list(self):
        program = one_let(Plus(ONE, Sum("k", AT_K)))
        first = cloth_of(program)
        first.lines[0].sums.clear()
        first.lines[0].axes.append("q")
        self.assertEqual(told_lines(program), [("s0", [], ["k"], "a[k]"), ("b", ["x"], [], "+ 1 s0[]")])

    def test_deep_and_wide_terms(self):
        term = Place("x")
        for depth in range(9):
            term = Plus(Number(depth), Sum("ykm"[depth % 3], term) if depth < 3 else Guard("x", 0, 3, term, ONE))
        program = one_let(term)
        look(program)
        self.assertEqual(woven(cloth_of(program), TABLES)["b"], meaning(program, TABLES)["b"])


def tree_of(term):
    if isinstance(term, Number):
        return ("number", term.number)
    if isinstance(term, Place):
        return ("place", term.axis)
    if isinstance(term, Read):
        return ("read", term.array, tuple(term.indexes))
    if isinstance(term, Sum):
        return ("sum", term.axis, tree_of(term.body))
    if isinstance(term, Guard):
        return ("if", term.axis, term.low, term.high, tree_of(term.inner), tree_of(term.outer))
    return ({Plus: "+", Minus: "-", Times: "*"}[type(term)], tree_of(term.left), tree_of(term.right))


WITHIN = {"sum": (2,), "if": (4, 5), "+": (1, 2), "-": (1, 2), "*": (1, 2), "number": (), "place": (), "read": ()}


def paths_of(tree, path=()):
    """Each part of the tree in the order of words, as a tuple (path, part); a path is the places to go to."""
    found = [(path, tree)]
    for place in WITHIN[tree[0]]:
        found.extend(paths_of(tree[place], path + (place,)))
    return found


def replaced(tree, path, other):
    if not path:
        return other
    return tree[:path[0]] + (replaced(tree[path[0]], path[1:], other),) + tree[path[0] + 1:]


def below_sums(tree):
    sums = []
    while tree[0] == "sum":
        sums.append(tree[1])
        tree = tree[2]
    return sums, tree


def first_to_lift(tree):
    """The path of the first sum in the order of words whose innermost body has no sum; or None."""
    for path, part in paths_of(tree):
        if part[0] == "sum" and not any(other[0] == "sum" for deeper, other in paths_of(below_sums(part)[1])):
            return path
    return None


def guards_round(tree, path):
    guards = []
    for place in path:
        if tree[0] == "if":
            guards.append((tree[1:4], place == 4))
        tree = tree[place]
    return guards


def axes_there(tree):
    axes = set()
    for path, part in paths_of(tree):
        if part[0] in ("place", "if"):
            axes.add(part[1])
        if part[0] == "read":
            axes.update(axis for axis, shift in part[2])
    return axes


def plainly_lifted(program):
    """By point 19, one sum at a time: the first that may be lifted, until none is left."""
    lines, count = [], 0
    for let in program.lets:
        top, tree = below_sums(tree_of(let.term))
        while first_to_lift(tree) is not None:
            path = first_to_lift(tree)
            part = tree
            for place in path:
                part = part[place]
            sums, body = below_sums(part)
            for (axis, low, high), inner in guards_round(tree, path)[::-1]:
                both = (body, ("number", 0)) if inner else (("number", 0), body)
                body = ("if", axis, low, high) + both
            axes = [name for name, length in program.axes if name in axes_there(body) and name not in sums]
            lines.append((f"s{count}", axes, sums, body))
            tree = replaced(tree, path, ("read", f"s{count}", tuple((axis, 0) for axis in axes)))
            count = count + 1
        lines.append((let.name, let.axes, top, tree))
    return lines


def depth_of(tree):
    return 1 + max([depth_of(tree[place]) for place in WITHIN[tree[0]]], default=0)


class ManyPrograms(unittest.TestCase):
    def setUp(self):
        self.mill = Mill(23)

    def test_the_lines_against_lifting_one_at_a_time(self):
        most = 0
        for again in range(500):
            program = self.mill.program()
            lines = cloth_of(program).lines
            self.assertEqual([(line.name, line.axes, line.sums, tree_of(line.term)) for line in lines],
                             plainly_lifted(program))
            most = max(most, len(lines) - len(program.lets))
        # A look at the mill itself.
        self.assertGreater(most, 8)

    def test_the_lines_come_to_the_numbers_of_the_meaning(self):
        for again in range(500):
            program = self.mill.program()
            tables = self.mill.tables(program)
            numbers = woven(cloth_of(program), tables)
            for name, row in meaning(program, tables).items():
                self.assertEqual(numbers[name], row)

    def test_what_point_20_tells_of_a_cloth(self):
        for again in range(500):
            program = self.mill.program()
            look(program)
            cloth = cloth_of(program)
            names = [name for name, axes in program.tables] + [line.name for line in cloth.lines]
            self.assertEqual(list(cloth.arrays), names)
            self.assertEqual(len(names), len(set(names)))
            self.assertEqual(cloth.lengths, dict(program.axes))
            self.assertLessEqual(len(first_order(cloth)), 4000)
            for line in cloth.lines:
                self.check_line(line, cloth)

    def check_line(self, line, cloth):
        tree = tree_of(line.term)
        bound = line.axes + line.sums
        self.assertEqual(cloth.arrays[line.name], line.axes)
        self.assertEqual(len(bound), len(set(bound)))
        self.assertLessEqual(len(bound), 8)
        self.assertLessEqual(axes_there(tree), set(bound) | {""})
        self.assertNotIn("sum", [part[0] for path, part in paths_of(tree)])
        self.assertLessEqual(len(parts_of(line.term)), 600)
        self.assertLessEqual(depth_of(tree), 40)


class Edges(unittest.TestCase):
    def test_a_term_of_five_hundred_parts(self):
        parts = [Sum("k", Number(number)) for number in range(166)] + [ONE]
        while len(parts) > 1:
            pairs = [Plus(left, right) for left, right in zip(parts[0::2], parts[1::2])]
            parts = pairs + parts[2 * len(pairs):]
        self.assertEqual(len(parts_of(parts[0])), 499)
        program = one_let(parts[0], [])
        look(program)
        cloth = cloth_of(program)
        self.assertEqual([line.name for line in cloth.lines], [f"s{number}" for number in range(166)] + ["b"])
        self.assertEqual(woven(cloth, TABLES)["b"], meaning(program, TABLES)["b"])

    def test_a_term_nested_twenty_deep(self):
        axes = [("x", 2), ("k", 2)]
        term = Sum("k", Plus(Place("k"), Place("x")))
        for depth in range(17):
            term = Guard("x", 0, 1, term, Number(depth)) if depth % 2 else Guard("x", 1, 2, Number(depth), term)
        program = Program(10, axes, [], [Let("b", ["x"], term)], ["b"])
        look(program)
        cloth = cloth_of(program)
        self.assertEqual((cloth.lines[0].name, cloth.lines[0].axes), ("s0", ["x"]))
        self.assertEqual(len(parts_of(cloth.lines[0].term)), 2 * 17 + 3)
        self.assertEqual(woven(cloth, {})["b"], meaning(program, {})["b"])

    def test_all_eight_axes(self):
        names = ["a", "b", "c", "d", "e", "f", "g", "h"]
        body = Place("h")
        for axis in names[:7]:
            body = Plus(body, Place(axis))
        term = Sum("d", Sum("e", Plus(ONE, Sum("f", Sum("g", Plus(ONE, Sum("h", body)))))))
        program = Program(10, [(name, 2) for name in names[::-1]][:5] + [("c", 1), ("b", 1), ("a", 1)], [],
                          [Let("z", ["a", "b", "c"], term)], ["z"])
        look(program)
        cloth = cloth_of(program)
        self.assertEqual([(line.name, line.axes, line.sums) for line in cloth.lines], [
            ("s0", ["g", "f", "e", "d", "c", "b", "a"], ["h"]), ("s1", ["e", "d", "c", "b", "a"], ["f", "g"]),
            ("z", ["a", "b", "c"], ["d", "e"])])
        self.assertEqual(woven(cloth, {})["z"], meaning(program, {})["z"])


if __name__ == "__main__":
    unittest.main()
