"""The names, arguments and fields of the interface, as the document tells them."""

import importlib
import inspect
import unittest

from arrayloom.errors import LoomError
from arrayloom.lifting import cloth_of
from arrayloom.lines import Cloth
from arrayloom.lines import Line
from arrayloom.loom import Loom
from arrayloom.programs import Let
from arrayloom.programs import Program
from arrayloom.terms import Number
from arrayloom.terms import Term
from arrayloom.terms import World

FUNCTIONS = {
    "cells": {"cells_of": "lengths", "place_of": "lengths cell", "cell_of": "lengths place"},
    "programs": {"lengths_of": "program", "arrays_of": "program"},
    "shapes": {"look_names": "program", "look_terms": "program", "work_of": "program"},
    "rims": {"look": "program"},
    "meaning": {"meaning": "program tables"},
    "lifting": {"cloth_of": "program"},
    "steps": {"first_order": "cloth", "steps_of": "nest"},
    "nests": {"first_nest": "cloth"},
    "moves": {"moved": "nest move", "planned": "cloth moves"},
    "needs": {"read_by": "cloth step", "written_by": "cloth step", "needs_of": "cloth"},
    "judging": {"judge": "cloth steps"},
    "wanted": {"wanted_of": "cloth"},
    "lives": {"lives_of": "cloth steps", "crowd_of": "cloth steps"},
    "homes": {"homes_of": "cloth steps"},
    "tape": {"tape_of": "cloth nest"},
    "machine": {"go": "tape wheel homes boxes most"},
    "texts": {"read_program": "text", "program_text": "program"},
    "plans": {"read_move": "row", "move_text": "move"},
}
CLASSES = {
    "errors": {"BeyondRim": "name array spot cell", "NotYet": "name array spot cell", "NoMove": "place",
               "Clash": "first second array cell"},
    "terms": {"World": "wheel lengths numbers", "Number": "number", "Place": "axis", "Read": "array indexes",
              "Plus": "left right", "Minus": "left right", "Times": "left right", "Sum": "axis body",
              "Guard": "axis low high inner outer"},
    "programs": {"Let": "name axes term", "Program": "wheel axes tables lets outs"},
    "lines": {"Line": "name axes sums term", "Cloth": "wheel lengths arrays tables lines outs"},
    "loom": {"Loom": "text"},
}
METHODS_OF_TERMS = {"worth": "at world", "reads": "at lengths", "words": ""}
METHODS_OF_A_LOOM = {"move": "row", "back": "", "moves": "", "order": "", "room": "", "run": "tables"}
PLAIN_REFUSALS = ["NoName", "NoShape", "TooMuch", "NoTable", "NoEnd", "Outside", "Unwritten", "NoText"]


def module_called(name):
    return importlib.import_module("arrayloom." + name)


class Interface(unittest.TestCase):
    def check(self, asked, arguments, own=()):
        names = [*own, *arguments.split()]
        parameters = inspect.signature(asked).parameters.values()
        self.assertEqual([parameter.name for parameter in parameters], names)
        self.assertEqual([parameter for parameter in parameters if parameter.default is not parameter.empty], [])

    def test_functions(self):
        for module, functions in FUNCTIONS.items():
            for name, arguments in functions.items():
                with self.subTest(module=module, name=name):
                    self.check(getattr(module_called(module), name), arguments)

    def test_classes(self):
        for module, classes in CLASSES.items():
            for name, arguments in classes.items():
                with self.subTest(module=module, name=name):
                    self.check(getattr(module_called(module), name), arguments)

    def test_methods(self):
        for name in CLASSES["terms"]:
            if name != "World":
                for method, arguments in METHODS_OF_TERMS.items():
                    self.check(getattr(getattr(module_called("terms"), name), method), arguments, ["self"])
                self.assertTrue(issubclass(getattr(module_called("terms"), name), Term))
        self.check(module_called("terms").Read.cell_at, "at", ["self"])
        for method, arguments in METHODS_OF_A_LOOM.items():
            self.check(getattr(Loom, method), arguments, ["self"])

    def test_refusals(self):
        for name in PLAIN_REFUSALS + list(CLASSES["errors"]):
            self.assertEqual(getattr(module_called("errors"), name).__bases__, (LoomError,))
        self.assertEqual(LoomError.__bases__, (ValueError,))


class FieldsThatAreCopied(unittest.TestCase):
    """Point 2 and the interface: a list as a list, a dict as a dict, copied to the bottom; objects as they are."""

    def made(self):
        let, line = Let("b", ["x"], Number(1)), Line("b", ["x"], ["k"], Number(1))
        return [
            (World, [10, {"x": 2}, {"a": {(0,): 1}}]),
            (Program, [10, [("x", 2)], [("a", ["x"])], [let], ["b"]]),
            (Let, ["b", ["x"], Number(1)]),
            (Line, ["b", ["x"], ["k"], Number(1)]),
            (Cloth, [10, {"x": 2, "k": 2}, {"a": ["x"], "b": ["x"]}, ["a"], [line], ["b"]])]

    def fields(self, thing, names):
        return [getattr(thing, name) for name in names]

    def test_what_is_handed_in_is_thrown_about_behind(self):
        classes = {name: arguments.split() for module in CLASSES.values() for name, arguments in module.items()}
        for (kind, told), (same, kept) in zip(self.made(), self.made()):
            names = classes[kind.__name__]
            thing = kind(*told)
            held = self.fields(thing, names)
            self.assertEqual([type(value) for value in held], [type(value) for value in kept])
            self.throw_about(told)
            for value, wanted in zip(self.fields(thing, names), kept):
                if isinstance(value, list) and value and isinstance(value[0], (Let, Line)):
                    self.assertEqual([member.name for member in value], ["b"])
                elif not isinstance(value, Number):
                    self.assertEqual(value, wanted)

    def throw_about(self, told):
        for value in told:
            if isinstance(value, dict):
                for inner in value.values():
                    if isinstance(inner, (dict, list)):
                        inner.clear()
                value.clear()
            if isinstance(value, list):
                for inner in value:
                    if isinstance(inner, tuple) and isinstance(inner[-1], list):
                        inner[-1].clear()
                value.clear()

    def test_a_cloth_shares_no_list_with_its_program(self):
        program = Program(10, [("x", 2)], [("a", ["x"])], [Let("b", ["x"], Number(1))], ["b"])
        cloth = cloth_of(program)
        self.assertIsNot(cloth.outs, program.outs)
        self.assertIsNot(cloth.arrays["a"], program.tables[0][1])
        self.assertIsNot(cloth.arrays["b"], cloth.lines[0].axes)
        self.assertIsNot(cloth.lines[0].axes, program.lets[0].axes)


if __name__ == "__main__":
    unittest.main()
