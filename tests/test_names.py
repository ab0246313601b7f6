import unittest

from arrayloom.programs import Let
from arrayloom.programs import Program
from arrayloom.rims import look
from arrayloom.shapes import look_names
from arrayloom.terms import Number
from arrayloom.terms import Place
from arrayloom.terms import Read
from tests.samples import refusal_of

NO_NAMES = ["", " ", "abcdefghi", "a" * 40, "A", "aB", "Abc", "a1", "1", "0a", "a b", " a", "a ", "a_b", "_", "-", "~",
            "a.b", "[", "`", "{", "@", "ab{", "if", "sum"]
NAMES = ["a", "z", "abcdefgh", "zzzzzzzz", "i", "f", "iff", "fi", "su", "sums", "wheel", "axis", "let", "out", "table",
         "s", "is", "def"]


def plain(axes=("x", "y"), tables=(("a", ["x"]),), lets=(("b", ["x"]),), outs=("b",)):
    made = [Let(name, list(own), Number(1)) for name, own in lets]
    return Program(10, [(name, 3) for name in axes], list(tables), made, list(outs))


class Asking(unittest.TestCase):
    def check(self, program, wanted):
        for asked in (look_names, look):
            self.assertEqual(refusal_of(asked, program), wanted)

    def no_name(self, program):
        self.check(program, ("NoName",))

    def no_shape(self, program):
        self.check(program, ("NoShape",))

    def passes(self, program):
        self.check(program, None)


class OneName(Asking):
    def test_what_is_no_name(self):
        for name in NO_NAMES:
            with self.subTest(name=name):
                self.no_name(plain(axes=("x", "y", name)))
                self.no_name(plain(axes=(name, "x", "y")))
                self.no_name(plain(tables=(("a", ["x"]), (name, []))))
                self.no_name(plain(tables=((name, ["x"]),), outs=("b",)))
                self.no_name(plain(lets=(("b", ["x"]), (name, []))))
                self.no_name(plain(lets=((name, []), ("b", ["x"]))))

    def test_what_is_no_name_and_comes_as_an_out(self):
        for name in NO_NAMES:
            with self.subTest(name=name):
                self.no_name(plain(tables=((name, ["x"]),), outs=(name,)))
                self.no_name(plain(lets=((name, ["x"]),), outs=(name,)))

    def test_names(self):
        for name in NAMES:
            if name not in ("a", "x", "b"):
                with self.subTest(name=name):
                    self.passes(plain(axes=("x", name), tables=(("a", ["x", name]),)))
                    self.passes(plain(tables=((name, ["x"]),), outs=(name, "b")))
                    self.passes(plain(lets=((name, ["x"]),), outs=(name,)))

    def test_each_letter(self):
        for sign in range(ord(" "), ord("~") + 1):
            for name in (chr(sign) + "q", "q" + chr(sign)):
                with self.subTest(name=name):
                    program = plain(lets=((name, []),), outs=(name,))
                    self.check(program, None if "a" <= chr(sign) <= "z" else ("NoName",))


class NamesThatComeTwice(Asking):
    def test_among_axes(self):
        self.no_name(plain(axes=("x", "x")))
        self.no_name(plain(axes=("x", "y", "k", "x")))

    def test_an_axis_twice_with_two_lengths(self):
        self.no_name(Program(10, [("x", 2), ("x", 3)], [("a", ["x"])], [], ["a"]))

    def test_among_tables(self):
        self.no_name(plain(tables=(("a", ["x"]), ("a", ["x"]))))
        self.no_name(plain(tables=(("a", ["x"]), ("c", []), ("a", []))))

    def test_among_lets(self):
        self.no_name(plain(lets=(("b", ["x"]), ("b", ["x"]))))
        self.no_name(plain(lets=(("b", ["x"]), ("c", []), ("b", []))))

    def test_one_let_object_twice(self):
        let = Let("b", [], Number(1))
        self.no_name(Program(10, [], [], [let, let], ["b"]))

    def test_an_axis_and_a_table(self):
        self.no_name(plain(axes=("x", "a")))

    def test_an_axis_and_a_let(self):
        self.no_name(plain(axes=("x", "b")))

    def test_a_table_and_a_let(self):
        self.no_name(plain(tables=(("b", ["x"]),)))


class Outs(Asking):
    def test_strangers(self):
        for name in ("c", "", "if", "B", "bb", "b ", "stranger" * 5):
            with self.subTest(name=name):
                self.no_name(plain(outs=(name,)))
                self.no_name(plain(outs=("b", name)))
                self.no_name(plain(outs=(name, "b")))

    def test_an_axis(self):
        self.no_name(plain(outs=("x",)))
        self.no_name(plain(outs=("b", "y")))

    def test_one_that_is_there_already(self):
        self.no_name(plain(outs=("b", "b")))
        self.no_name(plain(outs=("a", "b", "a")))

    def test_none_at_all(self):
        self.no_name(plain(outs=()))
        self.no_name(Program(10, [], [], [], []))

    def test_tables_and_lets_in_any_order(self):
        for outs in (("a",), ("b",), ("a", "b"), ("b", "a")):
            with self.subTest(outs=outs):
                self.passes(plain(outs=outs))

    def test_fourteen(self):
        tables = [(name, []) for name in "abcdef"]
        lets = [(name, []) for name in "ghijklmn"]
        self.passes(plain(axes=(), tables=tables, lets=lets, outs="abcdefghijklmn"))
        self.passes(plain(axes=(), tables=tables, lets=lets, outs="nmlkjihgfedcba"))


class AxesOfArrays(Asking):
    def both(self, axes, asked):
        four = ("x", "y", "k", "m")
        asked(plain(axes=four, tables=(("c", []), ("a", list(axes)))))
        asked(plain(axes=four, lets=(("c", []), ("b", list(axes)))))
        asked(plain(axes=four, lets=(("b", list(axes)), ("c", []))))

    def test_none_to_three(self):
        for axes in ((), ("x",), ("m",), ("x", "y"), ("y", "x"), ("m", "x", "k"), ("x", "y", "k")):
            with self.subTest(axes=axes):
                self.both(axes, self.passes)

    def test_strangers(self):
        for axes in (("z",), ("x", "z"), ("z", "x"), ("x", "y", "z"), ("",), ("x", ""), ("X",), ("if",), ("x y",)):
            with self.subTest(axes=axes):
                self.both(axes, self.no_shape)

    def test_a_table_or_a_let_is_no_axis(self):
        for axes in (("a",), ("b",), ("c", "x")):
            with self.subTest(axes=axes):
                self.both(axes, self.no_shape)

    def test_one_that_is_there_already(self):
        for axes in (("x", "x"), ("x", "y", "x"), ("y", "x", "x")):
            with self.subTest(axes=axes):
                self.both(axes, self.no_shape)

    def test_four_and_more(self):
        for axes in (("x", "y", "k", "m"), ("x", "y", "k", "x"), ("x", "y", "k", "z"), ("x", "y", "k", "m") * 3):
            with self.subTest(axes=axes):
                self.both(axes, self.no_shape)

    def test_the_same_axis_in_several_lists(self):
        self.passes(plain(tables=(("a", ["x"]), ("c", ["x", "y"])), lets=(("b", ["x"]), ("d", ["y", "x"]))))


class WhatIsDueFirst(Asking):
    def test_names_ahead_of_axes(self):
        self.no_name(plain(tables=(("a", ["z"]), ("A", ["x"]))))
        self.no_name(plain(tables=(("a", ["z"]),), lets=(("B", []), ("b", []))))
        self.no_name(plain(tables=(("a", ["x", "x"]),), lets=(("a", []),), outs=("a",)))

    def test_outs_ahead_of_axes(self):
        self.no_name(plain(tables=(("a", ["z"]),), outs=()))
        self.no_name(plain(tables=(("a", ["z"]),), outs=("c",)))
        self.no_name(plain(lets=(("b", ["x", "y", "x"]),), outs=("b", "b")))

    def test_axes_ahead_of_terms(self):
        lets = [Let("b", [], Read("stranger", [])), Let("c", ["z"], Number(1))]
        program = Program(10, [("x", 3)], [], lets, ["b"])
        self.no_shape(program)

    def test_terms_are_not_looked_at_with_the_names(self):
        for term in (Read("stranger", []), Place("z"), Read("b", [("x", 5)])):
            program = Program(10, [("x", 60)], [], [Let("b", ["x"], term)], ["b"])
            self.assertEqual(refusal_of(look_names, program), None)


class Bare(Asking):
    def test_without_axes(self):
        self.passes(plain(axes=(), tables=(("a", []),), lets=(("b", []),)))

    def test_without_tables(self):
        self.passes(plain(tables=()))

    def test_without_lets(self):
        self.passes(plain(lets=(), outs=("a",)))

    def test_of_one_thing_alone(self):
        self.passes(Program(2, [], [("a", [])], [], ["a"]))
        self.passes(Program(2, [], [], [Let("a", [], Number(1))], ["a"]))

    def test_eight_axes_six_tables_eight_lets(self):
        axes = ["p", "q", "r", "s", "t", "u", "v", "w"]
        tables = [(name, [axis]) for name, axis in zip("abcdef", axes)]
        lets = [(name, [axis]) for name, axis in zip("ghijklmn", axes)]
        self.passes(plain(axes=axes, tables=tables, lets=lets, outs=("n",)))

    def test_arguments_by_name(self):
        self.assertIsNone(look_names(program=plain()))
        self.assertIsNone(look(program=plain()))


if __name__ == "__main__":
    unittest.main()
