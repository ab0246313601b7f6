"""Point 3, with all stages one behind the other, on programs, tables and rows of moves that are made by a seed."""

import unittest

from arrayloom.errors import Clash
from arrayloom.errors import Outside
from arrayloom.homes import homes_of
from arrayloom.judging import judge
from arrayloom.lifting import cloth_of
from arrayloom.lives import crowd_of
from arrayloom.loom import Loom
from arrayloom.machine import go
from arrayloom.meaning import meaning
from arrayloom.moves import planned
from arrayloom.nests import first_nest
from arrayloom.programs import arrays_of
from arrayloom.programs import lengths_of
from arrayloom.rims import look
from arrayloom.shapes import work_of
from arrayloom.steps import first_order
from arrayloom.steps import steps_of
from arrayloom.tape import tape_of
from arrayloom.texts import program_text
from arrayloom.texts import read_program
from arrayloom.wanted import wanted_of
from tests.mill import Mill
from tests.mill import cells
from tests.mill import plain_lives
from tests.mill import plain_meaning
from tests.mill import plain_reads
from tests.mill import plain_written
from tests.mill import plainly_good

WIDE = 10 ** 30 - 1


def first_boxes(program, tables, room, homes):
    boxes = [None] * room
    for name, axes in program.tables:
        for cell, number in zip(cells(axes, lengths_of(program)), tables[name]):
            if cell in homes[name]:
                boxes[homes[name][cell]] = number % program.wheel
    return boxes


class Whole(unittest.TestCase):
    def check(self, program, tables, moves):
        """Whether the order is let by; all that point 3 tells of it."""
        look(program)
        cloth = cloth_of(program)
        nest = planned(cloth, moves)
        steps = steps_of(nest)
        self.assertEqual(sorted(steps), sorted(first_order(cloth)))
        try:
            judge(cloth, steps)
        except Clash as clash:
            self.check_clash(clash, cloth, steps)
            return False
        room, homes = homes_of(cloth, steps)
        tape, boxes = tape_of(cloth, nest), first_boxes(program, tables, room, homes)
        left, trace = go(tape, program.wheel, homes, boxes, 2000 * len(steps) + 2000)
        self.check_trace(boxes, left, trace)
        self.check_outs(program, tables, homes, left)
        self.check_room(cloth, steps, room)
        self.check_no_shorter_row(tape, program, homes, boxes, len(steps))
        return True

    def check_clash(self, clash, cloth, steps):
        """Two steps that share a cell, and that stand the other way round than in the first order."""
        order = first_order(cloth)
        self.assertLess(order.index(clash.first), order.index(clash.second))
        self.assertGreater(steps.index(clash.first), steps.index(clash.second))
        shared = (clash.array, clash.cell)
        self.assertEqual(plain_written(cloth, clash.first), shared)
        self.assertIn(shared, plain_reads(cloth, clash.second) + [plain_written(cloth, clash.second)])
        self.assertFalse(plainly_good(cloth, steps))

    def check_trace(self, boxes, left, trace):
        """No box is read that lies outside the row, or that nothing was put in."""
        full = {box for box, number in enumerate(boxes) if number is not None}
        self.assertEqual(len(left), len(boxes))
        for word, box in trace:
            self.assertIn(box, range(len(boxes)))
            if word == "read":
                self.assertIn(box, full)
            full.add(box)

    def check_outs(self, program, tables, homes, left):
        numbers, lengths = plain_meaning(program, tables), lengths_of(program)
        self.assertEqual(meaning(program, tables), numbers)
        for name in program.outs:
            there = cells(arrays_of(program)[name], lengths)
            self.assertEqual([left[homes[name][cell]] for cell in there], numbers[name])

    def check_room(self, cloth, steps, room):
        """The room is reached at the gap that is told, and nowhere more are live."""
        lives = [life for spans in plain_lives(cloth, steps).values() for life in spans.values()]
        numbers = [sum(first <= gap <= last for first, last in lives) for gap in range(len(steps) + 1)]
        gap, crowd = crowd_of(cloth, steps)
        self.assertEqual((numbers[gap], len(set(crowd)), max(numbers)), (room, room, room))

    def check_no_shorter_row(self, tape, program, homes, boxes, steps):
        """The last box is the home of a wanted cell: of a line's, as it is empty, so that a step asks for it."""
        if boxes[-1] is None:
            with self.assertRaises(Outside):
                go(tape, program.wheel, homes, boxes[:-1], 2000 * steps + 2000)


class ManyPrograms(Whole):
    def test_programs_and_rows_of_moves(self):
        mill = Mill(503)
        good, refused = 0, 0
        for again in range(260):
            program = mill.slanted() if again % 5 == 0 else mill.program()
            cloth = cloth_of(program)
            if len(first_order(cloth)) > 120:
                continue
            for most in (0, 3, 12, 40):
                moves, nest = mill.row(first_nest(cloth), most)
                let_by = self.check(program, mill.tables(program), moves)
                good, refused = good + (let_by and moves != []), refused + (not let_by)
        # A look at the mill itself.
        self.assertGreater(good, 400)
        self.assertGreater(refused, 60)

    def test_a_loom_comes_to_the_same(self):
        mill = Mill(509)
        for again in range(120):
            program = mill.slanted() if again % 5 == 0 else mill.program()
            cloth, tables = cloth_of(program), mill.tables(program)
            moves, nest = mill.row(first_nest(cloth), 8)
            loom = Loom(program_text(program))
            for move in moves:
                loom.move(" ".join(str(member) for member in move))
            self.assertEqual(loom.order(), steps_of(nest))
            try:
                judge(cloth, steps_of(nest))
            except Clash:
                with self.assertRaises(Clash):
                    loom.run(tables)
                continue
            numbers = plain_meaning(program, tables)
            self.assertEqual(loom.run(tables), {name: numbers[name] for name in program.outs})
            self.assertEqual(loom.room(), homes_of(cloth, steps_of(nest))[0])


class Bounds(Whole):
    def test_as_many_of_all_as_may_be(self):
        """8 axes, 6 tables, 8 lets, 14 outs, numbers of 30 figures and of 60 in tables."""
        axes = [(name, length) for name, length in zip("pqrstuvw", (1, 2, 3, 2, 1, 2, 60, 1))]
        tables = [("ta", ["w"]), ("tb", ["q", "r"]), ("tc", []), ("td", ["v"]), ("te", ["s", "t", "u"]), ("tf", ["p"])]
        rows = [f"wheel {WIDE}"] + [f"axis {name} {length}" for name, length in axes]
        rows.extend(" ".join(["table", name] + own) for name, own in tables)
        rows.extend([
            f"let la v = * td[v] -{WIDE}",
            "let lb q r = + tb[q,r] if r 1 3 lb[q,r-1] sum v la[v]",
            "let lc = sum q sum r sum s * lb[q,r] te[s,0,1]",
            "let ld u s = - te[s,0,u] if u 1 2 ld[u-1,s] lc[]",
            "let le p = + ta[0] * tf[p] sum s sum t sum u te[s,t,u]",
            "let lf v = + if v 1 60 lf[v-1] 1 + if v 2 60 lf[v-2] 1 v",
            f"let lg = {WIDE}",
            "let lh q r s = * lb[q,r] + ld[0,s] ld[1,s]"])
        outs = [name for name, own in tables] + ["la", "lb", "lc", "ld", "le", "lf", "lg", "lh"]
        program = read_program("\n".join(rows + [f"out {name}" for name in outs]))
        numbers = {name: [(-1) ** place * (10 ** 60 - 1 - place) for place, cell in enumerate(cells(own, dict(axes)))]
                   for name, own in tables}
        nest = first_nest(cloth_of(program))
        mill = Mill(521)
        for again in range(6):
            moves = mill.row(nest, 40)[0]
            self.check(program, numbers, moves)
        self.assertTrue(self.check(program, numbers, []))

    def test_terms_of_five_hundred_parts_and_twenty_deep(self):
        # 5 parts, doubled 6 times, then 11 guards round them: 493 parts.
        words = "+ a[x] if x 1 3 b[x-1] -1"
        for again in range(6):
            words = f"- {words} {words}"
        for again in range(11):
            words = f"if x 0 {2 + again % 3} {words} - - - x 1 2 * 3 a[x]"
        text = f"wheel 10007\naxis x 3\ntable a x\nlet b x = {words}\nout b"
        program = read_program(text)
        self.assertEqual(work_of(program), 3 + 3 * 493)
        for moves in ([], [("cut", 0, 2)], [("cut", 0, 1), ("cut", 0, 10 ** 29)]):
            self.assertTrue(self.check(program, {"a": [5, -6, 10 ** 59]}, moves))

    def test_as_many_steps_as_may_be(self):
        # 60 times 33 cells, each a set of one part, and the same again with another term.
        text = ("wheel 1000\naxis x 60\naxis y 33\nlet b x y = x\nlet c x y = y\n"
                "let d = + b[3,4] c[5,6]\nout d")
        program = read_program(text)
        self.assertEqual(work_of(program), 3963)
        loom = Loom(text)
        self.assertEqual(len(loom.order()), 3961)
        self.assertEqual((loom.run({}), loom.room()), ({"d": [9]}, 2))
        for row in ("cut 0 7", "cut 1 5", "swap 7", "cut 3 7", "join 0"):
            loom.move(row)
        self.assertEqual((loom.run({}), loom.room()), ({"d": [9]}, 2))

    def test_adds_as_many_as_may_be(self):
        loom = Loom("wheel 1000\naxis x 60\naxis y 60\nlet b = sum x sum y x\nout b")
        for row in ("swap 1", "cut 1 7", "cut 2 11", "swap 5"):
            loom.move(row)
            self.assertEqual((loom.run({}), loom.room()), ({"b": [60 * sum(range(60)) % 1000]}, 1))


class TheAskersOwn(Whole):
    def test_what_one_stage_tells_is_thrown_about_behind_the_next(self):
        text = ("wheel 100\naxis x 3\naxis y 2\naxis z 3\ntable g x y\nlet b x y = + g[x,y] sum z g[z,y]\n"
                "let c x = sum y b[x,y]\nout c\nout b")
        program = read_program(text)
        tables = {"g": [1, 2, 3, 4, 5, 6]}
        cloth, moves = cloth_of(program), [("cut", 4, 2)]
        nest = planned(cloth, moves)
        moves.clear()
        steps = steps_of(nest)
        room, homes = homes_of(cloth, steps)
        tape, boxes = tape_of(cloth, nest), first_boxes(program, tables, room, homes)
        steps.clear()
        wanted_of(cloth).clear()
        lengths_of(program).clear()
        arrays_of(program)["b"].append("z")
        told = meaning(program, tables)
        kept = {name: list(numbers) for name, numbers in told.items()}
        told["b"].clear()
        first = go(tape, 100, homes, boxes, 10 ** 6)
        first[0].clear()
        left, trace = go(tape, 100, homes, boxes, 10 ** 6)
        for name in ("b", "c"):
            self.assertEqual([left[homes[name][cell]] for cell in cells(arrays_of(program)[name], lengths_of(program))],
                             kept[name])
        self.assertEqual(program_text(program), text)
        self.assertEqual(meaning(program, tables), kept)


if __name__ == "__main__":
    unittest.main()
