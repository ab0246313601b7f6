import unittest

from arrayloom.lifting import cloth_of
from arrayloom.lines import Cloth
from arrayloom.lines import Line
from arrayloom.nests import first_nest
from arrayloom.programs import Let
from arrayloom.programs import Program
from arrayloom.steps import first_order
from arrayloom.steps import steps_of
from arrayloom.terms import Guard
from arrayloom.terms import Number
from arrayloom.terms import Place
from arrayloom.terms import Plus
from arrayloom.terms import Read
from arrayloom.terms import Sum
from tests.mill import Mill
from tests.mill import nodes_of
from tests.mill import plain_order
from tests.mill import plain_steps
from tests.samples import LENGTHS
from tests.samples import cloth_with
from tests.samples import deed
from tests.samples import loop

ONE = Number(1)
EIGHT = ["a", "b", "c", "d", "e", "f", "g", "h"]


class FirstNest(unittest.TestCase):
    def check(self, cloth, wanted):
        for again in range(2):
            self.assertEqual(first_nest(cloth), wanted)
        self.assertEqual(first_nest(cloth=cloth), wanted)
        self.check_whole(cloth)

    def check_whole(self, cloth):
        """What holds of each first nest."""
        fresh, body = first_nest(cloth)
        self.assertEqual([node[1] for node in nodes_of(body)], list(range(fresh)))
        self.assertEqual(steps_of((fresh, body)), first_order(cloth))
        self.assertEqual(plain_steps((fresh, body)), plain_order(cloth))

    def test_a_line_without_axes_and_without_sums(self):
        self.check(cloth_with(Line("b", [], [], ONE)), (1, (deed(0, 0, "set"),)))

    def test_one_own_axis(self):
        self.check(cloth_with(Line("b", ["y"], [], ONE)), (2, (loop(0, 3, deed(1, 0, "set", (0,))),)))

    def test_several_own_axes_from_the_first_in(self):
        self.check(cloth_with(Line("b", ["y", "x"], [], ONE)),
                   (3, (loop(0, 3, loop(1, 2, deed(2, 0, "set", (0, 1)))),)))
        self.check(cloth_with(Line("b", ["x", "m", "y"], [], ONE)),
                   (4, (loop(0, 2, loop(1, 1, loop(2, 3, deed(3, 0, "set", (0, 1, 2))))),)))

    def test_a_sum_without_own_axes(self):
        # Two nodes side by side: nothing stands round the start and the loop behind it.
        self.check(cloth_with(Line("b", [], ["y"], ONE)),
                   (3, (deed(0, 0, "start"), loop(1, 3, deed(2, 0, "add", (), (1,))))))

    def test_several_sums_from_the_outermost_in(self):
        self.check(cloth_with(Line("b", [], ["y", "x"], ONE)),
                   (4, (deed(0, 0, "start"), loop(1, 3, loop(2, 2, deed(3, 0, "add", (), (1, 2)))))))

    def test_own_axes_and_sums(self):
        self.check(cloth_with(Line("b", ["x"], ["y"], ONE)),
                   (4, (loop(0, 2, deed(1, 0, "start", (0,)), loop(2, 3, deed(3, 0, "add", (0,), (2,)))),)))
        inside = (deed(2, 0, "start", (0, 1)), loop(3, 1, loop(4, 3, deed(5, 0, "add", (0, 1), (3, 4)))))
        self.check(cloth_with(Line("b", ["k", "x"], ["m", "y"], ONE)), (6, (loop(0, 2, loop(1, 2, *inside)),)))

    def test_several_lines(self):
        lines = [Line("b", ["x"], ["k"], ONE), Line("c", [], [], ONE), Line("s0", [], ["y", "m"], ONE),
                 Line("d", ["y", "k"], [], ONE), Line("e", [], [], ONE)]
        self.check(cloth_with(*lines), (13, (
            loop(0, 2, deed(1, 0, "start", (0,)), loop(2, 2, deed(3, 0, "add", (0,), (2,)))),
            deed(4, 1, "set"),
            deed(5, 2, "start"), loop(6, 3, loop(7, 1, deed(8, 2, "add", (), (6, 7)))),
            loop(9, 3, loop(10, 2, deed(11, 3, "set", (9, 10)))),
            deed(12, 4, "set"))))

    def test_lines_that_are_alike(self):
        lines = [Line(name, ["x"], [], ONE) for name in ("b", "c", "d")]
        self.check(cloth_with(*lines), (6, (
            loop(0, 2, deed(1, 0, "set", (0,))), loop(2, 2, deed(3, 1, "set", (2,))),
            loop(4, 2, deed(5, 2, "set", (4,))))))

    def test_a_cloth_without_lines(self):
        self.check(Cloth(10, {"x": 2}, {"a": ["x"]}, ["a"], [], ["a"]), (0, ()))

    def test_numbers_are_of_lines_not_of_arrays(self):
        cloth = cloth_with(Line("b", ["x"], [], Read("a", [("x", 0)])), tables={"a": ["x"], "n": []})
        self.check(cloth, (2, (loop(0, 2, deed(1, 0, "set", (0,))),)))

    def test_the_term_does_not_matter(self):
        ahead = Guard("x", 1, 2, Read("b", [("x", -1)]), ONE)
        for term in (ONE, Place("x"), ahead, Plus(ahead, ahead), Guard("x", 0, 0, ahead, ONE)):
            self.check(cloth_with(Line("b", ["x"], [], term)), (2, (loop(0, 2, deed(1, 0, "set", (0,))),)))

    def test_lengths_of_one_and_of_sixty(self):
        lengths = {"k": 60, "x": 1, "z": 7}
        self.check(cloth_with(Line("b", ["x"], ["k"], ONE), lengths=lengths),
                   (4, (loop(0, 1, deed(1, 0, "start", (0,)), loop(2, 60, deed(3, 0, "add", (0,), (2,)))),)))
        self.check(cloth_with(Line("b", ["k"], ["x"], ONE), lengths=lengths),
                   (4, (loop(0, 60, deed(1, 0, "start", (0,)), loop(2, 1, deed(3, 0, "add", (0,), (2,)))),)))

    def test_of_a_program(self):
        program = Program(10, [("x", 2), ("k", 3)], [("a", ["x"])], [
            Let("b", ["x"], Plus(Sum("k", Place("x")), ONE)), Let("c", [], ONE)], ["b"])
        self.check(cloth_of(program), (7, (
            loop(0, 2, deed(1, 0, "start", (0,)), loop(2, 3, deed(3, 0, "add", (0,), (2,)))),
            loop(4, 2, deed(5, 1, "set", (4,))), deed(6, 2, "set"))))

    def test_eight_own_axes_or_sums(self):
        lengths = {axis: 2 for axis in EIGHT}
        body = (deed(8, 0, "set", tuple(range(8))),)
        for number in range(7, -1, -1):
            body = (loop(number, 2, *body),)
        self.check(cloth_with(Line("line", EIGHT, [], ONE), lengths=lengths), (9, body))
        body = (deed(9, 0, "add", (), tuple(range(1, 9))),)
        for number in range(8, 0, -1):
            body = (loop(number, 2, *body),)
        self.check(cloth_with(Line("line", [], EIGHT, ONE), lengths=lengths), (10, (deed(0, 0, "start"),) + body))

    def test_own_axes_and_sums_that_are_eight_together(self):
        lengths = {axis: 1 + place % 3 for place, axis in enumerate(EIGHT)}
        for own in range(9):
            cloth = cloth_with(Line("line", EIGHT[:own], EIGHT[own:], ONE), lengths=lengths)
            fresh, body = first_nest(cloth)
            self.assertEqual(fresh, 9 if own == 8 else 10)
            sizes = [node[2] for node in nodes_of(body) if node[0] == "loop"]
            self.assertEqual(sizes, [lengths[axis] for axis in EIGHT])
            self.check_whole(cloth)

    def test_four_thousand_lines(self):
        cloth = cloth_with(*[Line(f"s{number}", [], [], ONE) for number in range(4000)])
        self.check(cloth, (4000, tuple(deed(number, number, "set") for number in range(4000))))

    def test_four_thousand_steps(self):
        cloth = cloth_with(Line("b", ["x"], ["y", "k"], ONE), lengths={"x": 50, "y": 39, "k": 2})
        self.assertEqual(len(first_order(cloth)), 50 * 79)
        self.check(cloth, (5, (loop(0, 50, deed(1, 0, "start", (0,)), loop(2, 39, loop(3, 2, deed(
            4, 0, "add", (0,), (2, 3))))),)))

    def test_names_of_other_signs(self):
        name = "a name, of 40 signs: [x+1] ~ !! (so far)"
        cloth = Cloth(10, {name: 2, "": 3}, {name: [name]}, [], [Line(name, [name], [], Place(name))], [name])
        self.check(cloth, (2, (loop(0, 2, deed(1, 0, "set", (0,))),)))

    def test_kinds(self):
        nest = first_nest(cloth_with(Line("b", ["x"], ["y"], ONE), Line("c", [], [], ONE)))
        self.assertIs(type(nest), tuple)
        self.assertEqual([type(member) for member in nest], [int, tuple])
        for node in nodes_of(nest[1]):
            kinds = {"loop": [str, int, int, int, int, tuple], "deed": [str, int, int, str, tuple, tuple]}[node[0]]
            self.assertIs(type(node), tuple)
            self.assertEqual([type(member) for member in node], kinds)
            if node[0] == "deed":
                for number in node[4] + node[5]:
                    self.assertIs(type(number), int)
        for kept in (nest, first_nest(Cloth(10, {}, {"n": []}, ["n"], [], ["n"]))):
            self.assertIsInstance(hash(kept), int)

    def test_the_cloth_stays(self):
        cloth = cloth_with(Line("b", ["x"], ["k"], ONE))
        first_nest(cloth)
        self.assertEqual((cloth.lengths, cloth.arrays, cloth.outs), (LENGTHS, {"b": ["x"]}, ["b"]))
        self.assertEqual((cloth.lines[0].axes, cloth.lines[0].sums), (["x"], ["k"]))

    def test_lists_that_are_changed_later(self):
        axes, sums, lengths = ["x"], ["k"], {"x": 2, "k": 3}
        lines = [Line("b", axes, sums, ONE)]
        cloth = Cloth(10, lengths, {"b": axes}, [], lines, ["b"])
        nest = first_nest(cloth)
        axes.append("k")
        sums.clear()
        lengths["x"] = 9
        lines.append(Line("c", [], [], ONE))
        self.check(cloth, nest)

    def test_two_cloths_asked_in_turn(self):
        first = cloth_with(Line("b", ["x"], [], ONE))
        second = cloth_with(Line("b", [], ["x"], ONE), lengths={"x": 1})
        for again in range(2):
            self.check(first, (2, (loop(0, 2, deed(1, 0, "set", (0,))),)))
            self.check(second, (3, (deed(0, 0, "start"), loop(1, 1, deed(2, 0, "add", (), (1,))))))

    def test_many_cloths(self):
        mill = Mill(41)
        for again in range(150):
            self.check_whole(cloth_of(mill.program()))
            self.check_whole(mill.cloth())


if __name__ == "__main__":
    unittest.main()
