import unittest

from arrayloom.errors import LoomError
from arrayloom.errors import NoText
from arrayloom.programs import Let
from arrayloom.programs import Program
from arrayloom.rims import look
from arrayloom.terms import Guard
from arrayloom.terms import Minus
from arrayloom.terms import Number
from arrayloom.terms import Place
from arrayloom.terms import Plus
from arrayloom.terms import Read
from arrayloom.terms import Sum
from arrayloom.terms import Times
from arrayloom.texts import program_text
from arrayloom.texts import read_program
from tests.grammar import changed
from tests.grammar import dice_of
from tests.grammar import is_good_text
from tests.mill import Mill

THIRTY = 987654321098765432109876543210
WHOLE = """wheel 97
axis x 4
axis k 60
table a x
table g x k
table n
let b x = + a[x] if x 1 4 b[x-1] 0
let c = sum k * g[0,k] - n[] -12
out c
out b"""


def spelled(term):
    """A term as tuples of its class's name and its fields."""
    fields = {Number: ["number"], Place: ["axis"], Read: ["array", "indexes"], Plus: ["left", "right"],
              Minus: ["left", "right"], Times: ["left", "right"], Sum: ["axis", "body"],
              Guard: ["axis", "low", "high", "inner", "outer"]}[type(term)]
    values = [getattr(term, field) for field in fields]
    return (type(term).__name__,) + tuple(value if isinstance(value, (int, str, list)) else spelled(value)
                                          for value in values)


def plain(program):
    lets = [(type(let), let.name, let.axes, spelled(let.term)) for let in program.lets]
    return (program.wheel, program.axes, program.tables, lets, program.outs)


def with_let(words, row="let b x = "):
    """A text whose one let has these words."""
    return "wheel 10\naxis x 4\n" + row + words + "\nout b"


class Texts(unittest.TestCase):
    def check(self, text, program):
        """The text is read as the program, which is written as the text."""
        for again in range(2):
            read = read_program(text)
            self.assertIs(type(read), Program)
            self.assertEqual(plain(read), plain(program))
            self.assertEqual(program_text(read), text)
            self.assertEqual(program_text(program), text)
        self.assertEqual(plain(read_program(text=text)), plain(program))
        self.assertEqual(program_text(program=program), text)
        self.assertTrue(is_good_text(text))

    def check_term(self, words, term):
        self.check(with_let(words), Program(10, [("x", 4)], [], [Let("b", ["x"], term)], ["b"]))

    def check_same(self, text):
        self.assertEqual(program_text(read_program(text)), text)
        self.assertTrue(is_good_text(text))

    def refuse(self, text):
        for again in range(2):
            with self.assertRaises(LoomError, msg=repr(text)) as caught:
                read_program(text)
            self.assertIs(type(caught.exception), NoText)
        self.assertFalse(is_good_text(text))

    def refuse_term(self, words):
        self.refuse(with_let(words))
        self.refuse(with_let(words, row="let b = "))


class Rows(Texts):
    def test_the_wheel_alone(self):
        self.check("wheel 2", Program(2, [], [], [], []))
        self.check("wheel 10", Program(10, [], [], [], []))
        self.check(f"wheel {THIRTY}", Program(THIRTY, [], [], [], []))

    def test_axes(self):
        self.check("wheel 3\naxis x 1", Program(3, [("x", 1)], [], [], []))
        self.check("wheel 3\naxis y 60\naxis x 9\naxis z 10", Program(3, [("y", 60), ("x", 9), ("z", 10)], [], [], []))

    def test_tables(self):
        tables = [("n", []), ("a", ["x"]), ("g", ["y", "x"]), ("h", ["x", "y", "z"])]
        self.check("wheel 3\ntable n\ntable a x\ntable g y x\ntable h x y z", Program(3, [], tables, [], []))

    def test_lets(self):
        one = Number(1)
        lets = [Let("n", [], one), Let("a", ["x"], one), Let("g", ["y", "x"], one), Let("h", ["x", "y", "z"], one)]
        self.check("wheel 3\nlet n = 1\nlet a x = 1\nlet g y x = 1\nlet h x y z = 1", Program(3, [], [], lets, []))

    def test_outs(self):
        self.check("wheel 3\nout b", Program(3, [], [], [], ["b"]))
        self.check("wheel 3\nout c\nout a\nout b", Program(3, [], [], [], ["c", "a", "b"]))

    def test_all_sorts(self):
        running = Plus(Read("a", [("x", 0)]), Guard("x", 1, 4, Read("b", [("x", -1)]), Number(0)))
        total = Sum("k", Times(Read("g", [("", 0), ("k", 0)]), Minus(Read("n", []), Number(-12))))
        self.check(WHOLE, Program(97, [("x", 4), ("k", 60)], [("a", ["x"]), ("g", ["x", "k"]), ("n", [])],
                                  [Let("b", ["x"], running), Let("c", [], total)], ["c", "b"]))

    def test_some_sorts(self):
        self.check_same("wheel 3\ntable a\nout a")
        self.check_same("wheel 3\naxis x 3\nout a")
        self.check_same("wheel 3\naxis x 3\nlet a = 1")
        self.check_same("wheel 3\nlet a = 1\nout a")

    def test_kinds(self):
        read = read_program(WHOLE)
        self.assertEqual([type(field) for field in (read.wheel, read.axes, read.tables, read.lets, read.outs)],
                         [int, list, list, list, list])
        for name, length in read.axes:
            self.assertEqual([type(name), type(length)], [str, int])
        for table in read.tables:
            self.assertEqual([type(table), type(table[0]), type(table[1])], [tuple, str, list])
        for let in read.lets:
            self.assertEqual([type(let), type(let.axes)], [Let, list])


class Terms(Texts):
    def test_numbers(self):
        for number in (0, 1, 9, 10, 100, -1, -9, -10, THIRTY, -THIRTY, 10 ** 30 - 1, 1 - 10 ** 30):
            self.check_term(str(number), Number(number))

    def test_places(self):
        for axis in ("x", "y", "abcdefgh", "abcdefghi", "ifs", "summ", "i", "wheel", "let", "out", "a" * 40):
            self.check_term(axis, Place(axis))

    def test_reads(self):
        self.check_term("a[]", Read("a", []))
        self.check_term("a[x]", Read("a", [("x", 0)]))
        self.check_term("abc[xy,yx]", Read("abc", [("xy", 0), ("yx", 0)]))
        self.check_term("a[x-1,y,z+2,-3]", Read("a", [("x", -1), ("y", 0), ("z", 2), ("", -3)]))

    def test_shifts_behind_an_axis(self):
        for shift in (1, 9, 10, 120, THIRTY):
            self.check_term(f"a[x+{shift}]", Read("a", [("x", shift)]))
            self.check_term(f"a[x-{shift}]", Read("a", [("x", -shift)]))

    def test_shifts_without_an_axis(self):
        for shift in (0, 1, 10, -1, -10, THIRTY, -THIRTY):
            self.check_term(f"a[{shift}]", Read("a", [("", shift)]))
            self.check_term(f"a[{shift},x,{shift}]", Read("a", [("", shift), ("x", 0), ("", shift)]))

    def test_pairs(self):
        for sign, pair in (("+", Plus), ("-", Minus), ("*", Times)):
            self.check_term(f"{sign} 1 x", pair(Number(1), Place("x")))
            self.check_term(f"{sign} -1 -2", pair(Number(-1), Number(-2)))
            self.check_term(f"{sign} {sign} 1 x a[]", pair(pair(Number(1), Place("x")), Read("a", [])))
            self.check_term(f"{sign} 1 {sign} x a[]", pair(Number(1), pair(Place("x"), Read("a", []))))

    def test_sums(self):
        self.check_term("sum k k", Sum("k", Place("k")))
        self.check_term("sum k sum m 1", Sum("k", Sum("m", Number(1))))
        self.check_term("+ sum k 1 sum k 2", Plus(Sum("k", Number(1)), Sum("k", Number(2))))

    def test_guards(self):
        self.check_term("if x 1 4 5 y", Guard("x", 1, 4, Number(5), Place("y")))
        self.check_term("if x -4 0 -5 + 1 2", Guard("x", -4, 0, Number(-5), Plus(Number(1), Number(2))))
        self.check_term(f"if x {-THIRTY} {THIRTY} 1 2", Guard("x", -THIRTY, THIRTY, Number(1), Number(2)))
        self.check_term("if x 5 1 if y 0 0 1 2 if z 1 1 3 4", Guard(
            "x", 5, 1, Guard("y", 0, 0, Number(1), Number(2)), Guard("z", 1, 1, Number(3), Number(4))))

    def test_all_within_one_another(self):
        guard = Guard("x", 1, 60, Read("c", [("x", -1)]), Number(0))
        inner = Sum("m", Guard("k", 0, 1, Minus(Place("m"), guard), Times(Number(-7), guard)))
        self.check_term(
            "+ if x 1 60 c[x-1] 0 sum k * a[x,k] sum m if k 0 1 - m if x 1 60 c[x-1] 0 * -7 if x 1 60 c[x-1] 0",
            Plus(guard, Sum("k", Times(Read("a", [("x", 0), ("k", 0)]), inner))))

    def test_words_of_terms_as_names(self):
        # Names are not looked at but where they are places: a word with an end of its own is no place.
        self.check_term("if[]", Read("if", []))
        self.check_term("sum[sum,if-1]", Read("sum", [("sum", 0), ("if", -1)]))
        self.check_term("sum sum 1", Sum("sum", Number(1)))
        self.check_term("sum if 1", Sum("if", Number(1)))
        self.check_term("if if 0 1 2 3", Guard("if", 0, 1, Number(2), Number(3)))

    def test_twenty_deep(self):
        for words in ("+ 1 " * 19 + "x", "- " * 19 + "x" + " 1" * 19, "sum k " * 19 + "1", "if x 0 1 2 " * 19 + "3",
                      "if x 0 1 " * 19 + "2" + " 3" * 19):
            self.check_same(with_let(words))

    def test_five_hundred_parts_and_more(self):
        term = Plus(Number(1), Place("x"))
        for again in range(7):
            term = Minus(term, term)
        words = term.words()
        self.assertEqual(len(words), 511)
        self.check_term(" ".join(words), term)
        self.check_term(" ".join(["*"] + words + words), Times(term, term))


class ByHand(Texts):
    def test_one_term_in_several_places(self):
        once = Read("a", [("x", 1)])
        self.check_term("if x 0 3 a[x+1] + a[x+1] a[x+1]", Guard("x", 0, 3, once, Plus(once, once)))

    def test_a_program_without_anything(self):
        self.assertEqual(program_text(Program(5, [], [], [], [])), "wheel 5")

    def test_the_order_of_the_lists(self):
        program = Program(5, [("y", 2), ("x", 1)], [("d", ["y", "x"]), ("c", [])],
                          [Let("b", ["x"], Read("d", [("", 0), ("x", 0)])), Let("a", [], Number(-3))], ["a", "d", "b"])
        self.check("wheel 5\naxis y 2\naxis x 1\ntable d y x\ntable c\nlet b x = d[0,x]\nlet a = -3\n"
                   "out a\nout d\nout b", program)

    def test_the_program_stays(self):
        program = read_program(WHOLE)
        kept = plain(read_program(WHOLE))
        program_text(program)
        self.assertEqual(plain(program), kept)

    def test_two_programs_of_one_text(self):
        first, second = read_program(WHOLE), read_program(WHOLE)
        # Fields are for reading; this only looks whether two programs share a list.
        for one, other in ((first.axes, second.axes), (first.tables[0][1], second.tables[0][1]),
                           (first.lets[0].axes, second.lets[0].axes), (first.outs, second.outs)):
            self.assertIsNot(one, other)

    def test_many_programs(self):
        mill = Mill(307)
        for again in range(300):
            program = mill.program()
            text = program_text(program)
            self.check(text, program)
            look(read_program(text))


class NotLookedAt(Texts):
    def test_names_that_come_twice(self):
        self.check_same("wheel 3\naxis x 2\naxis x 3\ntable x x x\nlet x x = x\nlet x = 1\nout x\nout x")

    def test_names_that_stand_for_nothing(self):
        self.check_same("wheel 3\ntable a y\nlet b z = + c[q] sum w v\nout e")

    def test_names_of_more_than_eight_letters_and_words_of_rows(self):
        self.check_same("wheel 3\naxis abcdefghi 2\naxis wheel 2\naxis axis 3\ntable table let\nlet let out = 1\n"
                        "out out")
        self.check_same("wheel 3\naxis if 2\naxis sum 3\ntable if sum\nlet sum if = if[sum]\nout sum")
        self.check_same("wheel 3\nout " + "z" * 40)

    def test_as_many_as_there_are(self):
        rows = ["wheel 3"] + [f"axis {name} 60" for name in "abcdefghijkl"] + [f"table {name}" for name in "mnopqrstuv"]
        rows = rows + [f"let {name}{name} = 1" for name in "abcdefghijkl"]
        rows = rows + [f"out {name}" for name in "abcdefghijklmnopqr"]
        self.check_same("\n".join(rows))

    def test_more_axes_and_indexes_than_may_be(self):
        names = list("abcdefghijklmn")
        self.check_same("wheel 3\ntable t " + " ".join(names) + "\nlet b " + " ".join(names) + " = 1\nout b")
        self.check_term("a[" + ",".join(names) + "]", Read("a", [(name, 0) for name in names]))

    def test_no_out_and_no_let(self):
        self.check_same("wheel 3\naxis x 2\ntable a x")


class NoTexts(Texts):
    def test_an_empty_text(self):
        for text in ("", " ", "\n", "\n\n", "\t"):
            self.refuse(text)

    def test_the_wheels_row(self):
        for text in ("wheel", "wheel ", "wheel 5 5", "Wheel 5", "weel 5", "5", "5 wheel", "wheel x", "wheel wheel",
                     "axis x 2", "out b", "axis x 2\nwheel 5", "wheel 5\nwheel 5", "wheel 5\nwheel 6\nout b"):
            self.refuse(text)

    def test_wheels_out_of_bounds(self):
        for wheel in ("0", "1", "-1", "-2", "-10", str(10 ** 30), str(10 ** 31), "1" * 5000):
            self.refuse(f"wheel {wheel}")
            self.refuse(f"wheel {wheel}\ntable a\nout a")

    def test_lengths_out_of_bounds(self):
        for length in ("0", "61", "100", "-1", "-5", str(10 ** 29), "1" * 31, "6" * 5000):
            self.refuse(f"wheel 3\naxis x {length}")
            self.refuse(f"wheel 3\naxis y 2\naxis x {length}\nout b")

    def test_numbers_that_are_written_otherwise(self):
        wrong = ["00", "01", "-0", "-00", "-01", "+1", "+0", "--1", "-", "1-", "-+1", "1.0", "1e3", "1_0", "0x1",
                 "\u0661", "1\u0661", "\u00b2", "\uff11", "one", "1" * 31, "-" + "1" * 31, "1" * 5000,
                 "-" + "1" * 5000, ""]
        for number in wrong:
            self.refuse(f"wheel {number}")
            self.refuse(f"wheel 3\naxis x {number}")
            self.refuse_term(f"if x {number} 2 3 4")
            self.refuse_term(f"if x 1 {number} 3 4")
            if number != "one":
                self.refuse_term(f"a[x,{number},x]")
            if number not in ("-", "one"):
                self.refuse_term(number)
                self.refuse_term(f"+ 1 {number}")
                self.refuse_term(f"a[x+{number}]")
                self.refuse_term(f"a[x-{number}]")
        for number in ("05", "-5", "+5", "5.0", "\u0665", "5 ", " 5", "5\t"):
            self.refuse(f"wheel {number}")
            self.refuse(f"wheel 3\naxis x {number}")

    def test_rows_of_another_sort(self):
        for row in ("", "x", "lets b = 1", "Let b = 1", "tables a", "outs b", "axes x 2", "if x", "+", "= 1", "# b"):
            self.refuse(f"wheel 3\n{row}")
            self.refuse(f"wheel 3\naxis x 2\n{row}\nout b")
            self.refuse(f"wheel 3\naxis x 2\nout b\n{row}")

    def test_rows_in_another_order(self):
        rows = ["axis x 2", "table a x", "let b x = 1", "out b"]
        for later in range(4):
            for earlier in range(later):
                self.refuse("\n".join(["wheel 3", rows[later], rows[earlier]]))
                self.refuse("\n".join(["wheel 3"] + rows + [rows[earlier]]))
            self.refuse("\n".join([rows[later], "wheel 3"]))
            self.refuse("\n".join(["wheel 3", rows[later], "wheel 3"]))
        self.check_same("\n".join(["wheel 3"] + rows))

    def test_a_blank_too_many(self):
        for place in range(len(WHOLE) + 1):
            for blank in (" ", "\t", "\r", "\x0b", "\x0c", "\u00a0", "\u2028", "\x00"):
                self.refuse(WHOLE[:place] + blank + WHOLE[place:])

    def test_a_line_end_too_many(self):
        for place in range(len(WHOLE) + 1):
            self.refuse(WHOLE[:place] + "\n" + WHOLE[place:])
        self.refuse(WHOLE + "\n")
        self.refuse(WHOLE + "\n\n")
        self.refuse("\n" + WHOLE)
        self.refuse("wheel 3\n")

    def test_other_line_ends(self):
        for end in ("\r\n", "\r", "\n\r", "\x0b", "\x85", "\u2028", " ", "\n\n", "; ", ""):
            self.refuse(WHOLE.replace("\n", end))
            self.refuse("wheel 3" + end + "out b")

    def test_a_word_too_few(self):
        for row in WHOLE.split("\n"):
            words = row.split(" ")
            names = words[:words.index("=")] if "=" in words else words
            for place in range(len(words)):
                # Where a table or a let has axes, one of its names may go.
                if words[0] not in ("table", "let") or len(names) == 2 or place not in range(1, len(names)):
                    self.refuse(WHOLE.replace(row, " ".join(words[:place] + words[place + 1:])))

    def test_a_word_too_many(self):
        for row, more in (("wheel 97", "wheel 97 2"), ("axis x 4", "axis x 4 4"), ("axis x 4", "axis x y 4"),
                          ("table n", "table n ="), ("table n", "table n 1"), ("out c", "out c b"),
                          ("b[x-1] 0", "b[x-1] 0 0"), ("b[x-1] 0", "b[x-1] 0 x"), ("-12", "-12 a[x]"),
                          ("let c =", "let c = ="), ("let c =", "let c = c ="), ("let c =", "let c 1 =")):
            self.refuse(WHOLE.replace(row, more))

    def test_lets_without_their_parts(self):
        for row in ("let", "let b", "let b x", "let =", "let = 1", "let b =", "let b = ", "let b x =", "let 1",
                    "let b 1", "let b x 1", "let b=1", "let b =1", "let b= 1", "let b == 1", "let b = = 1", "let  = 1"):
            self.refuse(f"wheel 3\naxis x 2\n{row}\nout b")

    def test_names_with_other_signs(self):
        for name in ("", "B", "aB", "b1", "1b", "a_b", "a-b", "a.b", "\u00e4", "b\u00e4", "\u0430", "b[", "=", "+",
                     "a,b", "b'", "\u00aa", "\uff42", "%"):
            self.refuse(f"wheel 3\naxis {name} 2")
            self.refuse(f"wheel 3\ntable {name}")
            self.refuse(f"wheel 3\ntable a {name}")
            self.refuse(f"wheel 3\ntable a x {name}")
            self.refuse(f"wheel 3\nlet {name} = 1")
            self.refuse(f"wheel 3\nout {name}")
            self.refuse_term(f"sum {name} 1")
            self.refuse_term(f"if {name} 0 1 2 3")
            self.refuse_term(f"{name}[x]")
            self.refuse_term(f"{name}[]")
            self.refuse_term(name)
            self.refuse(f"wheel 3\nlet b {name} = 1")
            # These two are good indexes or two of them.
            if name not in ("", "a,b"):
                self.refuse_term(f"a[{name}]")
                self.refuse_term(f"a[x,{name}+1]")

    def test_places_called_if_and_sum(self):
        for word in ("if", "sum"):
            self.refuse_term(word)
            self.refuse_term(f"+ 1 {word}")
            self.refuse_term(f"+ {word} 1")
            self.refuse_term(f"sum k {word}")
            self.refuse_term(f"if x 0 1 2 {word}")
            self.refuse_term(f"if x 0 1 {word} 2")

    def test_reads_that_are_written_otherwise(self):
        for word in ("a[", "a]", "[]", "[x]", "a[x", "ax]", "a[x]]", "a[[x]", "a[x]b", "a[x][x]", "a[]a", "a[,]",
                     "a[x,]", "a[,x]", "a[x,,y]", "a[x;y]", "a[x, y]", "a(x)", "a[x]+1", "-a[x]", "a[x*2]", "a1[x]",
                     "1[x]", "a[a[x]]", "a[x]\n", "a[X]"):
            self.refuse_term(word)

    def test_shifts_that_are_written_otherwise(self):
        for index in ("x+0", "x-0", "x+00", "x-01", "x+", "x-", "+x", "-x", "+1", "+0", "-0", "x+y", "x+-1", "x-+1",
                      "x--1", "x++1", "x+1+1", "x-1-1", "x+1-1", "x-1+1", "1+x", "1+1", "2x", "x2", "1-1", "x +1",
                      "x+1x", "-", "+", "--1", "x+" + "1" * 31, "x-" + "1" * 31, "1" * 31, "-" + "1" * 31,
                      "x+" + "1" * 5000, "x+\u0661", "\u0661", "-1-"):
            self.refuse_term(f"a[{index}]")
            self.refuse_term(f"a[x,{index}]")
            self.refuse_term(f"a[{index},0]")

    def test_terms_that_do_not_end_where_the_row_ends(self):
        for words in ("+", "+ 1", "+ 1 2 3", "1 2", "x x", "1 + 2", "- - 1 2", "* 1", "sum", "sum k", "sum k 1 2",
                      "sum 1 1", "sum k[] 1", "if", "if x", "if x 0", "if x 0 1", "if x 0 1 2", "if x 0 1 2 3 4",
                      "if 0 1 2 3", "if x y 1 2 3", "if x 0 y 2 3", "if x 0 + 1 2 3", "if x[] 0 1 2 3", "/ 1 2",
                      "** 1 2", "+- 1 2", "++ 1 2", "plus 1 2", "( 1 )", "(1)", ""):
            self.refuse_term(words)

    def test_nothing_is_kept_of_a_refused_text(self):
        self.refuse(WHOLE + "\n")
        self.check_same(WHOLE)


class ManyTexts(Texts):
    def test_changed_texts_against_a_plain_look(self):
        mill, dice = Mill(311), dice_of(311)
        good, bad = 0, 0
        for again in range(150):
            text = program_text(mill.program())
            for turn in range(40):
                other = changed(text, dice)
                if is_good_text(other):
                    self.check_same(other)
                    good = good + (other != text)
                else:
                    self.refuse(other)
                    bad = bad + 1
        # A look at the changes themselves: both come often.
        self.assertGreater(good, 300)
        self.assertGreater(bad, 3000)


if __name__ == "__main__":
    unittest.main()
