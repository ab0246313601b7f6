import unittest

from arrayloom.errors import BeyondRim
from arrayloom.errors import Clash
from arrayloom.errors import LoomError
from arrayloom.errors import NoEnd
from arrayloom.errors import NoMove
from arrayloom.errors import NoName
from arrayloom.errors import NoShape
from arrayloom.errors import NotYet
from arrayloom.errors import NoTable
from arrayloom.errors import NoText
from arrayloom.errors import Outside
from arrayloom.errors import TooMuch
from arrayloom.errors import Unwritten

PLAIN = [NoName, NoShape, TooMuch, NoTable, NoEnd, Outside, Unwritten, NoText]
WITH_FIELDS = [BeyondRim, NotYet, NoMove, Clash]
STEP = (0, "set", (1,), ())
LATER = (1, "add", (2,), (3,))


def one_of_each():
    refusals = [refusal("some words") for refusal in PLAIN]
    refusals.append(BeyondRim("b", "a", (0, 1), (-1,)))
    refusals.append(NotYet("b", "b", (2,), (2,)))
    refusals.append(NoMove(3))
    refusals.append(Clash(STEP, LATER, "a", (1,)))
    return refusals


class Kinship(unittest.TestCase):
    def test_loom_error_is_a_value_error(self):
        self.assertEqual(LoomError.__bases__, (ValueError,))

    def test_each_stands_straight_under_loom_error(self):
        for refusal in PLAIN + WITH_FIELDS:
            with self.subTest(refusal=refusal.__name__):
                self.assertEqual(refusal.__bases__, (LoomError,))
                self.assertTrue(issubclass(refusal, ValueError))

    def test_none_stands_under_another(self):
        for refusal in PLAIN + WITH_FIELDS:
            for other in PLAIN + WITH_FIELDS:
                with self.subTest(refusal=refusal.__name__, other=other.__name__):
                    self.assertEqual(issubclass(refusal, other), refusal is other)

    def test_each_bears_its_own_name(self):
        names = sorted(refusal.__name__ for refusal in PLAIN + WITH_FIELDS)
        self.assertEqual(names, [
            "BeyondRim", "Clash", "NoEnd", "NoMove", "NoName", "NoShape", "NoTable", "NoText", "NotYet",
            "Outside", "TooMuch", "Unwritten"])

    def test_each_can_be_raised_and_taken(self):
        for refusal in one_of_each():
            for taken in (type(refusal), LoomError, ValueError):
                with self.subTest(refusal=type(refusal).__name__, taken=taken.__name__):
                    with self.assertRaises(taken) as caught:
                        raise refusal
                    self.assertIs(caught.exception, refusal)

    def test_any_refusal_can_be_made_bare(self):
        for refusal in PLAIN + [LoomError]:
            with self.subTest(refusal=refusal.__name__):
                self.assertIsInstance(refusal(), LoomError)


class Fields(unittest.TestCase):
    def test_rim_refusals_tell_name_array_spot_cell(self):
        for refusal in (BeyondRim, NotYet):
            for made in (refusal("b", "a", (0, 1), (-1,)),
                         refusal(name="b", array="a", spot=(0, 1), cell=(-1,))):
                with self.subTest(refusal=refusal.__name__):
                    self.assertEqual(made.name, "b")
                    self.assertEqual(made.array, "a")
                    self.assertEqual(made.spot, (0, 1))
                    self.assertEqual(made.cell, (-1,))

    def test_no_move_tells_its_place(self):
        self.assertEqual(NoMove(0).place, 0)
        self.assertEqual(NoMove(place=39).place, 39)

    def test_clash_tells_both_steps_the_array_and_the_cell(self):
        for made in (Clash(STEP, LATER, "a", (1,)),
                     Clash(first=STEP, second=LATER, array="a", cell=(1,))):
            self.assertEqual(made.first, STEP)
            self.assertEqual(made.second, LATER)
            self.assertEqual(made.array, "a")
            self.assertEqual(made.cell, (1,))

    def test_tuples_without_members_stay_tuples(self):
        made = BeyondRim("b", "a", (), ())
        self.assertEqual((made.spot, made.cell), ((), ()))


if __name__ == "__main__":
    unittest.main()
