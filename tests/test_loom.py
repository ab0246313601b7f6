import unittest

from arrayloom.errors import BeyondRim
from arrayloom.errors import Clash
from arrayloom.errors import LoomError
from arrayloom.errors import NoMove
from arrayloom.errors import NoName
from arrayloom.errors import NoShape
from arrayloom.errors import NoTable
from arrayloom.errors import NoText
from arrayloom.errors import NotYet
from arrayloom.errors import TooMuch
from arrayloom.lifting import cloth_of
from arrayloom.loom import Loom
from arrayloom.nests import first_nest
from arrayloom.shapes import work_of
from arrayloom.texts import program_text
from arrayloom.texts import read_program
from tests.mill import Mill
from tests.mill import plain_crowd
from tests.mill import plain_meaning
from tests.mill import plain_moved
from tests.mill import plain_needs
from tests.mill import plain_order
from tests.mill import plain_steps
from tests.mill import plain_written
from tests.mill import plainly_good

FAR = 10 ** 29
# Each cell of b is the sum of the cells of a up to it; c has the cells of b. The loops are 0 for b and 2 for c.
RUNNING = """wheel 10
axis x 3
table a x
let b x = + a[x] if x 1 3 b[x-1] 0
let c x = b[x]
out c"""
RUNNING_TABLES = {"a": [3, 4, 5]}
# The loops are 0 and 1 for b, 3 and 4 for c; c reads b a row ahead, so that the rows can not be joined.
ASLANT = """wheel 100
axis x 3
axis y 2
table g x y
let b x y = + g[x,y] 1
let c x y = if x 0 2 b[x+1,y] 7
out c
out b"""
ASLANT_TABLES = {"g": [1, 2, 3, 4, 5, 6]}
PRODUCT = """wheel 1000
axis x 2
axis y 2
axis k 3
table a x k
table b k y
let c x y = sum k * a[x,k] b[k,y]
let t = + sum x sum y c[x,y] 1
out t
out c"""
PRODUCT_TABLES = {"a": [1, 2, 3, 4, 5, 6], "b": [1, 0, 2, 1, 0, 3]}


def text_with(*faults):
    """A text that is let by but for these faults."""
    rows = {
        "axis": ["axis x 4", "axis y 60", "axis z 60"],
        "table": ["table a x"],
        "let": ["let b x = a[x]"],
        "out": ["out b"]}
    more = {"NoName": ("out", "out e"), "NoShape": ("table", "table d q"), "TooMuch": ("let", "let m y z = + 1 y"),
            "BeyondRim": ("let", "let r x = a[x+1]"), "NotYet": ("let", "let o x = o[x]"), "NoText": ("out", "out ")}
    for fault in faults:
        sort, row = more[fault]
        rows[sort].append(row)
    return "\n".join(["wheel 10"] + [row for sort in rows for row in rows[sort]])


class Looms(unittest.TestCase):
    def refuse(self, refusal, asked, *told, **fields):
        for again in range(2):
            with self.assertRaises(LoomError) as caught:
                asked(*told)
            self.assertIs(type(caught.exception), refusal)
            for field, value in fields.items():
                self.assertEqual(getattr(caught.exception, field), value)

    def check(self, loom, rows, order, room, tables, numbers):
        """All that a loom answers, twice, with what it told thrown about in between."""
        for again in range(2):
            self.assertEqual(loom.moves(), rows)
            self.assertEqual(loom.order(), order)
            self.assertEqual(loom.room(), room)
            told = loom.run(tables)
            self.assertEqual(told, numbers)
            self.assertEqual([type(loom.moves()), type(loom.order()), type(loom.room()), type(told)],
                             [list, list, int, dict])
            loom.moves().append("swap 9")
            loom.order().clear()
            for row in told.values():
                row.reverse()
            told.clear()


class Making(Looms):
    def test_a_text_that_is_let_by(self):
        loom = Loom(text_with())
        self.assertEqual(loom.run({"a": [1, 2, 3, 4]}), {"b": [1, 2, 3, 4]})
        self.assertEqual(Loom(text=text_with()).moves(), [])

    def test_each_refusal_alone(self):
        self.refuse(NoText, Loom, text_with("NoText"))
        self.refuse(NoName, Loom, text_with("NoName"))
        self.refuse(NoShape, Loom, text_with("NoShape"))
        self.refuse(TooMuch, Loom, text_with("TooMuch"))
        self.refuse(BeyondRim, Loom, text_with("BeyondRim"), name="r", array="a", spot=(3,), cell=(4,))
        self.refuse(NotYet, Loom, text_with("NotYet"), name="o", array="o", spot=(0,), cell=(0,))

    def test_two_at_once(self):
        refusals = [NoText, NoName, NoShape, TooMuch, BeyondRim]
        for later in range(5):
            for earlier in range(later):
                two = [refusals[later].__name__, refusals[earlier].__name__]
                self.refuse(refusals[earlier], Loom, text_with(*two))
                self.refuse(refusals[earlier], Loom, text_with(*two[::-1]))
        for refusal in refusals[:4]:
            self.refuse(refusal, Loom, text_with("NotYet", refusal.__name__))

    def test_the_rims_let_by_let(self):
        self.refuse(BeyondRim, Loom, text_with("BeyondRim", "NotYet"), name="r")
        self.refuse(NotYet, Loom, text_with("NotYet", "BeyondRim"), name="o")
        both = "wheel 3\naxis x 2\nlet b x = b[x+1]\nout b"
        self.refuse(BeyondRim, Loom, both, name="b", array="b", spot=(1,), cell=(2,))

    def test_all_at_once(self):
        faults = ["NotYet", "BeyondRim", "TooMuch", "NoShape", "NoName", "NoText"]
        for refusal in (NoText, NoName, NoShape, TooMuch, NotYet, BeyondRim):
            self.refuse(refusal, Loom, text_with(*faults))
            faults.remove(refusal.__name__)

    def test_names_of_the_program_that_are_read_but_not_let_by(self):
        for text in ("wheel 3", "wheel 3\ntable a", "wheel 3\ntable if\nout if", "wheel 3\ntable a\nout a\nout a",
                     "wheel 3\ntable abcdefghi\nout abcdefghi", "wheel 3\ntable a\nlet a = 1\nout a"):
            self.refuse(NoName, Loom, text)
        self.refuse(NoShape, Loom, "wheel 3\naxis w 1\naxis x 1\naxis y 1\naxis z 1\ntable a w x y z\nout a")
        self.refuse(NoShape, Loom, "wheel 3\ntable a\nlet b = a[0]\nout b")
        self.refuse(NoName, Loom, "wheel 3\ntable a\nlet b = c[]\nlet c = 1\nout b")

    def test_texts_that_are_not_written_so(self):
        for text in ("", RUNNING + "\n", "\n" + RUNNING, RUNNING.replace("x 3", "x 61"), RUNNING.replace("10", "1")):
            self.refuse(NoText, Loom, text)


class Moves(Looms):
    def test_a_loom_without_moves(self):
        order = [(0, "set", (x,), ()) for x in range(3)] + [(1, "set", (x,), ()) for x in range(3)]
        self.check(Loom(RUNNING), [], order, 3, RUNNING_TABLES, {"c": [3, 7, 2]})

    def test_moves_one_by_one(self):
        loom = Loom(ASLANT)
        first = loom.order()
        numbers = {"c": [4, 5, 6, 7, 7, 7], "b": [2, 3, 4, 5, 6, 7]}
        loom.move("swap 0")
        order = [(0, "set", (x, y), ()) for y in range(2) for x in range(3)] + first[6:]
        self.check(loom, ["swap 0"], order, 12, ASLANT_TABLES, numbers)
        loom.move("cut 3 2")
        self.check(loom, ["swap 0", "cut 3 2"], order, 12, ASLANT_TABLES, numbers)
        loom.move("swap 6")
        loom.move("swap 3")
        self.assertEqual(loom.moves(), ["swap 0", "cut 3 2", "swap 6", "swap 3"])
        behind = [(1, "set", (x, y), ()) for y in range(2) for x in range(3)]
        self.check(loom, loom.moves(), order[:6] + behind, 12, ASLANT_TABLES, numbers)
        loom.back()
        tiles = [(1, "set", (x, y), ()) for xs in ((0, 1), (2,)) for y in range(2) for x in xs]
        self.check(loom, ["swap 0", "cut 3 2", "swap 6"], order[:6] + tiles, 12, ASLANT_TABLES, numbers)

    def test_a_move_tells_nothing(self):
        loom = Loom(ASLANT)
        self.assertIsNone(loom.move("swap 0"))
        self.assertIsNone(loom.move(row="cut 0 2"))
        self.assertIsNone(loom.back())

    def test_a_row_that_is_no_text(self):
        loom = Loom(RUNNING)
        loom.move("cut 0 2")
        order = loom.order()
        for row in ("", "swap", "cut 0", "swap  0", "swap 0 ", "swap -1", "cut 0 01", "join 0\n", "tile 0", "SWAP 0",
                    "cut 0 " + "1" * 31, "cut 0 -1"):
            self.refuse(NoText, loom.move, row)
            self.check(loom, ["cut 0 2"], order, 3, RUNNING_TABLES, {"c": [3, 7, 2]})

    def test_a_move_that_can_not_be_made(self):
        loom = Loom(RUNNING)
        loom.move("cut 2 2")
        loom.move("cut 0 2")
        order = loom.order()
        for row in ("swap 0", "swap 1", "swap 99", "cut 1 2", "cut 0 0", "cut 5 2", "join 2", "join 5", "join 99",
                    f"swap {FAR}", f"cut {FAR} {FAR}", "join 4"):
            self.refuse(NoMove, loom.move, row, place=0)
            self.check(loom, ["cut 2 2", "cut 0 2"], order, 3, RUNNING_TABLES, {"c": [3, 7, 2]})
        loom.back()
        self.refuse(NoMove, loom.move, "swap 5", place=0)
        self.assertEqual(loom.moves(), ["cut 2 2"])

    def test_a_row_that_is_no_text_is_refused_ahead_of_one_that_can_not_be_made(self):
        loom = Loom(RUNNING)
        self.refuse(NoText, loom.move, "swap 99 ")
        self.refuse(NoText, loom.move, "cut 99 -1")

    def test_the_number_of_a_new_loop_behind_a_refusal_and_behind_a_move_taken_back(self):
        loom = Loom(RUNNING)
        self.refuse(NoMove, loom.move, "cut 0 0", place=0)
        loom.move("cut 0 2")
        self.refuse(NoMove, loom.move, "cut 5 1", place=0)
        loom.move("cut 2 2")
        loom.back()
        loom.move("cut 2 3")
        self.refuse(NoMove, loom.move, "cut 6 1", place=0)
        self.refuse(NoMove, loom.move, "swap 5", place=0)
        self.assertEqual(loom.moves(), ["cut 0 2", "cut 2 3"])

    def test_back(self):
        loom = Loom(RUNNING)
        first = loom.order()
        self.refuse(NoMove, loom.back, place=0)
        for again in range(2):
            loom.move("join 0")
            self.assertEqual(loom.moves(), ["join 0"])
            self.assertNotEqual(loom.order(), first)
            loom.back()
            self.check(loom, [], first, 3, RUNNING_TABLES, {"c": [3, 7, 2]})
            self.refuse(NoMove, loom.back, place=0)
        for row in ("cut 0 2", "cut 2 2", "join 0", "join 4"):
            loom.move(row)
        for rest in (["cut 0 2", "cut 2 2", "join 0"], ["cut 0 2", "cut 2 2"], ["cut 0 2"], []):
            loom.back()
            self.assertEqual(loom.moves(), rest)
        self.refuse(NoMove, loom.back, place=0)
        self.assertEqual(loom.order(), first)

    def test_back_behind_a_refusal(self):
        loom = Loom(RUNNING)
        loom.move("cut 0 2")
        self.refuse(NoMove, loom.move, "swap 0", place=0)
        self.refuse(NoText, loom.move, "swap")
        loom.back()
        self.assertEqual(loom.moves(), [])

    def test_a_join_gives_another_room(self):
        loom = Loom("wheel 100\naxis x 5\nlet b x = * x x\nlet c x = + b[x] if x 1 5 c[x-1] 0\nlet e = c[4]\nout e")
        self.assertEqual((loom.room(), loom.run({})), (5, {"e": [30]}))
        loom.move("join 0")
        self.assertEqual((loom.room(), loom.run({})), (2, {"e": [30]}))
        loom.back()
        self.assertEqual((loom.room(), loom.run({})), (5, {"e": [30]}))

    def test_forty_moves(self):
        loom = Loom("wheel 97\naxis x 60\ntable a x\nlet b x = + a[x] if x 1 60 b[x-1] 0\nout b")
        order = loom.order()
        rows = ["cut 0 2", f"cut 0 {FAR}"] * 20
        for row in rows:
            loom.move(row)
        numbers = [sum(range(x + 1)) * 5 % 97 for x in range(60)]
        self.check(loom, rows, order, 60, {"a": [5 * x for x in range(60)]}, {"b": numbers})


class Clashes(Looms):
    def test_a_move_to_an_order_that_is_refused_is_made(self):
        loom = Loom(ASLANT)
        loom.move("join 0")
        order = [(line, "set", (x, y), ()) for x in range(3) for line in range(2) for y in range(2)]
        self.assertEqual((loom.moves(), loom.order()), (["join 0"], order))
        for asked in ((loom.room,), (loom.run, ASLANT_TABLES)):
            with self.assertRaises(LoomError) as caught:
                asked[0](*asked[1:])
            clash = caught.exception
            self.assertIs(type(clash), Clash)
            x, y = clash.cell
            self.assertEqual((clash.array, clash.first, clash.second),
                             ("b", (0, "set", (x, y), ()), (1, "set", (x - 1, y), ())))

    def test_a_run_looks_at_the_order_ahead_of_the_tables(self):
        loom = Loom(ASLANT)
        loom.move("join 0")
        for tables in ({}, {"g": []}, {"h": [1]}, {**ASLANT_TABLES, "h": []}):
            self.refuse(Clash, loom.run, tables)
            self.refuse(Clash, loom.room)
        loom.back()
        self.refuse(NoTable, loom.run, {})

    def test_back_from_an_order_that_is_refused(self):
        loom = Loom(ASLANT)
        first = loom.order()
        loom.move("join 0")
        self.refuse(Clash, loom.run, ASLANT_TABLES)
        loom.back()
        self.check(loom, [], first, 12, ASLANT_TABLES, {"c": [4, 5, 6, 7, 7, 7], "b": [2, 3, 4, 5, 6, 7]})

    def test_through_an_order_that_is_refused_to_one_that_is_let_by(self):
        loom = Loom("wheel 10\naxis x 3\naxis y 3\nlet b x y = if x 1 3 if y 0 2 + 1 b[x-1,y+1] 1 1\nout b")
        first = loom.order()
        loom.move("swap 0")
        self.refuse(Clash, loom.room)
        self.refuse(Clash, loom.run, {})
        loom.move("swap 1")
        self.check(loom, ["swap 0", "swap 1"], first, 9, {}, {"b": [1, 1, 1, 2, 2, 1, 3, 2, 1]})

    def test_moves_on_an_order_that_is_refused(self):
        loom = Loom(ASLANT)
        loom.move("join 0")
        loom.move("join 1")
        self.refuse(Clash, loom.room)
        self.refuse(NoMove, loom.move, "join 0", place=0)
        self.refuse(NoText, loom.move, "join")
        self.assertEqual(loom.moves(), ["join 0", "join 1"])
        loom.back()
        loom.back()
        self.assertEqual(loom.room(), 12)


class Running(Looms):
    def test_tables_that_are_none(self):
        for loom, good in ((Loom(RUNNING), RUNNING_TABLES), (Loom(ASLANT), ASLANT_TABLES),
                           (Loom(PRODUCT), PRODUCT_TABLES), (Loom("wheel 3\ntable n\nout n"), {"n": [2]})):
            for name, row in good.items():
                others = {other: numbers for other, numbers in good.items() if other != name}
                for wrong in (others, {**good, "z": []}, {**good, "z": row}, {**good, "c": [1, 2, 3]},
                              {**others, name.upper(): row}, {**others, name: row[:-1]}, {**others, name: row + [0]},
                              {**others, name: []}, {}):
                    self.refuse(NoTable, loom.run, wrong)
            loom.run(good)
        self.refuse(NoTable, Loom("wheel 3\nlet b = 1\nout b").run, {"b": [1]})

    def test_tables_that_nothing_reads_are_looked_at(self):
        loom = Loom("wheel 3\naxis x 2\ntable a x\ntable n\nlet b = 1\nout b")
        self.assertEqual(loom.run({"n": [1], "a": [1, 2]}), {"b": [1]})
        for wrong in ({"a": [1, 2]}, {"n": [1]}, {"n": [], "a": [1, 2]}, {"n": [1], "a": [1, 2, 3]}):
            self.refuse(NoTable, loom.run, wrong)

    def test_no_tables(self):
        self.assertEqual(Loom("wheel 3\nlet b = 5\nout b").run({}), {"b": [2]})
        self.assertEqual(Loom("wheel 3\nlet b = 5\nout b").run(tables={}), {"b": [2]})

    def test_numbers_of_tables_are_taken_by_the_wheel(self):
        loom = Loom("wheel 10\naxis x 4\ntable a x\nlet b x = a[x]\nout b\nout a")
        for numbers, left in (([0, 9, 10, 11], [0, 9, 0, 1]), ([-1, -10, -11, 99], [9, 0, 9, 9]),
                              ([10 ** 59, 1 - 10 ** 60, 10 ** 60 - 1, -5], [0, 1, 9, 5])):
            self.assertEqual(loom.run({"a": numbers}), {"b": left, "a": left})

    def test_a_table_as_an_out(self):
        loom = Loom("wheel 10\naxis x 3\ntable a x\ntable n\nout n\nout a")
        self.check(loom, [], [], 4, {"a": [5, 16, -7], "n": [30]}, {"n": [0], "a": [5, 6, 3]})
        loom = Loom("wheel 10\naxis x 3\ntable a x\nlet b x = * 2 a[x]\nout b\nout a")
        self.assertEqual(loom.run({"a": [5, 16, -7]}), {"b": [0, 2, 6], "a": [5, 6, 3]})

    def test_the_outs_alone_are_told(self):
        self.assertEqual(Loom(PRODUCT).run(PRODUCT_TABLES), {"c": [5, 11, 14, 23], "t": [54]})
        self.assertEqual(Loom(PRODUCT.replace("\nout c", "")).run(PRODUCT_TABLES), {"t": [54]})
        self.assertEqual(Loom(RUNNING + "\nout b").run(RUNNING_TABLES), {"b": [3, 7, 2], "c": [3, 7, 2]})

    def test_runs_one_behind_the_other(self):
        loom = Loom(RUNNING)
        for again in range(2):
            self.assertEqual(loom.run({"a": [1, 1, 1]}), {"c": [1, 2, 3]})
            self.assertEqual(loom.run({"a": [0, 0, 9]}), {"c": [0, 0, 9]})
            loom.move("cut 0 2")
            self.assertEqual(loom.run({"a": [0, 5, 0]}), {"c": [0, 5, 5]})
            self.refuse(NoTable, loom.run, {"a": [1]})
            self.assertEqual(loom.run({"a": [9, 9, 9]}), {"c": [9, 8, 7]})

    def test_two_looms_of_one_text(self):
        first, second = Loom(ASLANT), Loom(ASLANT)
        order = second.order()
        first.move("join 0")
        self.assertEqual((second.moves(), second.order(), second.room()), ([], order, 12))
        second.move("swap 3")
        self.assertEqual((first.moves(), second.moves()), (["join 0"], ["swap 3"]))
        self.refuse(Clash, first.run, ASLANT_TABLES)
        self.assertEqual(second.run(ASLANT_TABLES), Loom(ASLANT).run(ASLANT_TABLES))

    def test_what_was_handed_in_stays_and_may_be_changed_behind(self):
        row = [3, 14, -5]
        tables = {"a": row}
        loom = Loom(RUNNING + "\nout a")
        told = loom.run(tables)
        self.assertEqual((tables, row), ({"a": [3, 14, -5]}, [3, 14, -5]))
        row.clear()
        tables["z"] = []
        self.assertEqual(told, {"c": [3, 7, 2], "a": [3, 4, 5]})
        self.assertEqual(loom.run({"a": [3, 4, 5]}), told)

    def test_no_two_lists_are_one(self):
        loom = Loom(RUNNING)
        loom.move("cut 0 2")
        first, second = loom.run(RUNNING_TABLES), loom.run(RUNNING_TABLES)
        self.assertIsNot(first, second)
        self.assertIsNot(first["c"], second["c"])
        self.assertIsNot(loom.moves(), loom.moves())
        self.assertIsNot(loom.order(), loom.order())

    def test_a_wheel_of_thirty_figures(self):
        wheel = 10 ** 30 - 1
        loom = Loom(f"wheel {wheel}\naxis x 3\ntable a x\nlet b x = - * a[x] -{FAR} x\nout b")
        numbers = [10 ** 60 - 1, -10 ** 59, 1]
        wanted = [(-number * FAR - x) % wheel for x, number in enumerate(numbers)]
        self.assertEqual(loom.run({"a": numbers}), {"b": wanted})

    def test_as_much_work_as_may_be(self):
        # 57 times 10 cells of 7 parts, and 10 of the table.
        text = ("wheel 101\naxis x 57\naxis y 10\ntable a y\n"
                "let b x y = + if x 1 57 b[x-1,y] a[y] * x y\nout b")
        self.assertEqual(work_of(read_program(text)), 4000)
        loom = Loom(text)
        for row in ("cut 0 8", "cut 1 3", "swap 3", "swap 0"):
            loom.move(row)
        table = list(range(10))
        self.assertEqual(loom.run({"a": table}), {"b": plain_meaning(read_program(text), {"a": table})["b"]})


class ManyLooms(Looms):
    def test_against_the_cell_by_cell_meaning(self):
        mill = Mill(401)
        runs, refused, moved = 0, 0, 0
        for again in range(220):
            program = mill.slanted() if again % 4 == 0 else mill.program()
            cloth = cloth_of(program)
            if len(plain_order(cloth)) > 90:
                continue
            loom = Loom(program_text(program))
            nest, rows = first_nest(cloth), []
            for turn in range(5):
                self.check_nest(loom, cloth, nest, rows)
                if plainly_good(cloth, plain_steps(nest)):
                    tables = mill.tables(program)
                    meaning = plain_meaning(program, tables)
                    self.assertEqual(loom.run(tables), {name: meaning[name] for name in program.outs})
                    runs = runs + 1
                    moved = moved + (rows != [])
                else:
                    self.check_clash(loom, cloth, mill.tables(program))
                    refused = refused + 1
                nest, rows = self.woven_on(loom, mill, nest, rows)
        # A look at the mill itself: many runs behind moves, and some orders that are refused.
        self.assertGreater(runs, 500)
        self.assertGreater(moved, 350)
        self.assertGreater(refused, 30)

    def woven_on(self, loom, mill, nest, rows):
        """Some moves more, good ones and others."""
        for again in range(6):
            move = mill.move(nest)
            row = " ".join(str(member) for member in move)
            made = plain_moved(nest, move)
            if min(move[1:]) < 0:
                self.refuse(NoText, loom.move, row)
            elif made is None:
                self.refuse(NoMove, loom.move, row, place=0)
            else:
                loom.move(row)
                nest, rows = made, rows + [row]
        return nest, rows

    def check_nest(self, loom, cloth, nest, rows):
        self.assertEqual(loom.moves(), rows)
        self.assertEqual(loom.order(), plain_steps(nest))
        if plainly_good(cloth, loom.order()):
            self.assertEqual(loom.room(), len(plain_crowd(cloth, loom.order())[1]))

    def check_clash(self, loom, cloth, tables):
        order, first = loom.order(), plain_order(cloth)
        for asked in (loom.room, lambda: loom.run(tables), lambda: loom.run({"z": []})):
            with self.assertRaises(Clash) as caught:
                asked()
            clash = caught.exception
            self.assertIn((first.index(clash.first), first.index(clash.second)), plain_needs(cloth))
            self.assertGreater(order.index(clash.first), order.index(clash.second))
            self.assertEqual((clash.array, clash.cell), plain_written(cloth, clash.first))

    def test_moves_taken_back(self):
        mill = Mill(409)
        for again in range(60):
            program = mill.program()
            loom, nests, rows = Loom(program_text(program)), [first_nest(cloth_of(program))], []
            for turn in range(12):
                made, rows = self.woven_on_once(loom, mill, nests[-1], rows)
                nests.extend(made)
                if mill.dice.random() < 0.4:
                    if rows:
                        loom.back()
                        nests.pop()
                        rows = rows[:-1]
                    else:
                        self.refuse(NoMove, loom.back, place=0)
                self.assertEqual((loom.moves(), loom.order()), (rows, plain_steps(nests[-1])))

    def woven_on_once(self, loom, mill, nest, rows):
        move = mill.move(nest)
        made = None if min(move[1:]) < 0 else plain_moved(nest, move)
        if made is None:
            return [], rows
        row = " ".join(str(member) for member in move)
        loom.move(row)
        return [made], rows + [row]


if __name__ == "__main__":
    unittest.main()
