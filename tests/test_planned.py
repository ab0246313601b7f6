import copy
import unittest

from arrayloom.errors import NoMove
from arrayloom.lifting import cloth_of
from arrayloom.lines import Cloth
from arrayloom.lines import Line
from arrayloom.moves import moved
from arrayloom.moves import planned
from arrayloom.nests import first_nest
from arrayloom.steps import first_order
from arrayloom.steps import steps_of
from arrayloom.terms import Number
from arrayloom.terms import Place
from tests.mill import Mill
from tests.mill import plain_moved
from tests.samples import cloth_with
from tests.samples import cut_loop
from tests.samples import deed
from tests.samples import loop

ONE = Number(1)
FAR = 10 ** 29


def square():
    """Two lines over x and y; the loops are 0 and 1, 3 and 4."""
    return cloth_with(Line("b", ["x", "y"], [], ONE), Line("c", ["x", "y"], [], Place("x")), lengths={"x": 5, "y": 4})


class Rows(unittest.TestCase):
    def check(self, cloth, moves, wanted):
        kept = copy.deepcopy(moves)
        for again in range(2):
            self.assertEqual(planned(cloth, moves), wanted)
        self.assertEqual(planned(cloth=cloth, moves=moves), wanted)
        self.assertEqual(moves, kept)
        self.assertEqual(sorted(steps_of(wanted)), sorted(first_order(cloth)))

    def refuse(self, cloth, moves, place):
        kept = copy.deepcopy(moves)
        for again in range(2):
            with self.assertRaises(NoMove) as caught:
                planned(cloth, moves)
            self.assertEqual(caught.exception.place, place)
            self.assertIs(type(caught.exception.place), int)
        self.assertEqual(moves, kept)

    def test_a_row_of_none(self):
        for cloth in (square(), cloth_with(Line("b", [], ["k"], ONE)), Cloth(10, {}, {"n": []}, ["n"], [], ["n"])):
            self.check(cloth, [], first_nest(cloth))

    def test_one_move(self):
        first, second = first_nest(square())[1]
        self.check(square(), [("swap", 0)], (6, (loop(1, 4, loop(0, 5, deed(2, 0, "set", (0, 1)))), second)))
        self.check(square(), [("cut", 4, 3)], (7, (first, loop(3, 5, loop(4, 2, cut_loop(
            6, 4, 3, 4, deed(5, 1, "set", (3, 6))))))))
        self.check(square(), [("join", 0)], (6, (loop(
            0, 5, loop(1, 4, deed(2, 0, "set", (0, 1))), loop(4, 4, deed(5, 1, "set", (0, 4)))),)))

    def test_each_move_on_what_came_of_those_ahead(self):
        self.check(square(), [("join", 0), ("join", 1), ("swap", 0)], (6, (loop(1, 4, loop(
            0, 5, deed(2, 0, "set", (0, 1)), deed(5, 1, "set", (0, 1)))),)))

    def test_tiles(self):
        cloth = cloth_with(Line("b", ["x", "y"], [], ONE), lengths={"x": 5, "y": 4})
        moves = [("cut", 0, 2), ("cut", 1, 3), ("swap", 3)]
        self.check(cloth, moves, (5, (loop(0, 3, loop(1, 2, cut_loop(3, 5, 2, 0, cut_loop(
            4, 4, 3, 1, deed(2, 0, "set", (3, 4)))))),)))
        self.assertEqual([step[2] for step in steps_of(planned(cloth, moves))][:6], [
            (0, 0), (0, 1), (0, 2), (1, 0), (1, 1), (1, 2)])

    def test_a_number_that_only_a_move_ahead_made(self):
        cloth = cloth_with(Line("b", ["x", "y"], [], ONE), lengths={"x": 5, "y": 4})
        self.check(cloth, [("cut", 0, 2), ("swap", 3)], (4, (loop(0, 3, loop(1, 4, cut_loop(
            3, 5, 2, 0, deed(2, 0, "set", (3, 1))))),)))
        self.refuse(cloth, [("swap", 3), ("cut", 0, 2)], 0)
        self.refuse(cloth, [("cut", 0, 2), ("cut", 3, 2)], 1)

    def test_a_number_that_a_move_ahead_took_away(self):
        self.check(square(), [("swap", 3), ("swap", 4)], first_nest(square()))
        self.refuse(square(), [("join", 0), ("swap", 3)], 1)
        self.refuse(square(), [("join", 0), ("cut", 3, 1)], 1)

    def test_the_number_of_a_loop_that_was_joined_does_not_come_again(self):
        nest = planned(square(), [("join", 0), ("cut", 0, 2)])
        self.assertEqual((nest[0], nest[1][0][:5], nest[1][0][5][0][:5]), (
            7, ("loop", 0, 3, 0, -1), ("loop", 6, 5, 2, 0)))

    def test_the_place_of_the_first_move_that_can_not_be_made(self):
        good = [("cut", 0, 2), ("swap", 6), ("cut", 3, 9), ("cut", 4, 1), ("swap", 0), ("cut", 1, 2)]
        planned(square(), good)
        for bad in (("swap", 99), ("swap", -1), ("swap", 2), ("cut", 5, 1), ("cut", 0, 0), ("cut", 0, -FAR),
                    ("join", 4), ("join", FAR), ("cut", -FAR, 2)):
            for place in range(len(good) + 1):
                self.refuse(square(), good[:place] + [bad] + good[place:], place)
                self.refuse(square(), good[:place] + [bad, bad, ("swap", 77)], place)

    def test_a_move_that_could_be_made_ahead_but_not_there(self):
        self.check(square(), [("join", 0)], planned(square(), [("join", 0)]))
        self.refuse(square(), [("swap", 3), ("join", 0)], 1)
        self.refuse(square(), [("join", 0), ("join", 0)], 1)
        self.refuse(square(), [("cut", 0, 2), ("cut", 3, 2), ("swap", 0)], 2)

    def test_a_cloth_without_lines(self):
        cloth = Cloth(10, {"x": 2}, {"a": ["x"]}, ["a"], [], ["a"])
        for move in (("swap", 0), ("cut", 0, 1), ("join", 0)):
            self.refuse(cloth, [move], 0)

    def test_a_refusal_stands_under_no_other(self):
        with self.assertRaises(ValueError) as caught:
            planned(square(), [("swap", 0), ("swap", 0)])
        self.assertIs(type(caught.exception), NoMove)

    def test_forty_moves(self):
        cloth = cloth_with(Line("b", ["x"], [], ONE), lengths={"x": 60})
        moves = [("cut", 0, width) for width in (2, FAR) * 20]
        nest = planned(cloth, moves)
        self.assertEqual(nest[0], 42)
        self.assertEqual(steps_of(nest), first_order(cloth))
        inner, numbers = nest[1], []
        while inner[0][0] == "loop":
            numbers.append(inner[0][1])
            inner = inner[0][5]
        self.assertEqual(numbers, [0] + list(range(41, 1, -1)))
        self.assertEqual(inner, (deed(1, 0, "set", (2,)),))
        self.refuse(cloth, moves[:39] + [("cut", 0, 0)], 39)

    def test_forty_moves_of_a_line_of_eight_axes(self):
        axes = list("abcdefgh")
        lengths = {axis: 1 + place % 4 for place, axis in enumerate(axes)}
        cloth = cloth_with(Line("line", axes[:5], axes[5:], ONE), lengths=lengths)
        loops = (0, 1, 2, 3, 4, 6, 7, 8)
        nest = planned(cloth, [("cut", loops[place % 8], 1 + place // 8) for place in range(40)])
        self.assertEqual(nest[0], 50)
        self.assertEqual(steps_of(nest), first_order(cloth))

    def test_forty_joins(self):
        cloth = cloth_with(*[Line(f"s{number}", ["x"], [], ONE) for number in range(41)])
        deeds = tuple(deed(2 * number + 1, number, "set", (0,)) for number in range(41))
        self.check(cloth, [("join", 0)] * 40, (82, (loop(0, 2, *deeds),)))
        self.refuse(cloth, [("join", 0)] * 41, 40)

    def test_the_asker_changes_the_row_later(self):
        moves = [("swap", 0)]
        nest = planned(square(), moves)
        moves.append(("swap", 3))
        self.assertEqual(nest, planned(square(), [("swap", 0)]))
        self.check(square(), moves, moved(nest, ("swap", 3)))

    def test_asked_again_behind_a_refusal(self):
        cloth = square()
        self.refuse(cloth, [("swap", 0), ("swap", 0), ("swap", 1)], 1)
        self.check(cloth, [], first_nest(cloth))
        self.check(cloth, [("swap", 0), ("swap", 1)], first_nest(cloth))

    def test_the_cloth_stays(self):
        cloth = square()
        planned(cloth, [("cut", 0, 2)])
        self.refuse(cloth, [("cut", 0, 2), ("join", 0)], 1)
        self.assertEqual((cloth.lengths, cloth.arrays, cloth.outs), (
            {"x": 5, "y": 4}, {"b": ["x", "y"], "c": ["x", "y"]}, ["b", "c"]))
        self.assertEqual([line.axes for line in cloth.lines], [["x", "y"], ["x", "y"]])

    def test_many_rows_against_a_plain_walk(self):
        mill = Mill(53)
        lengths = []
        for again in range(100):
            for cloth in (cloth_of(mill.program()), mill.cloth()):
                moves, wanted = mill.row(first_nest(cloth), 12)
                self.check(cloth, moves, wanted)
                lengths.append(len(moves))
                bad = mill.move(wanted)
                if plain_moved(wanted, bad) is None:
                    self.refuse(cloth, moves + [bad] + moves, len(moves))
        # A look at the mill itself: most rows are long.
        self.assertGreater(sum(lengths), 1000)


if __name__ == "__main__":
    unittest.main()
