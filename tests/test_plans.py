import unittest

from arrayloom.errors import LoomError
from arrayloom.errors import NoText
from arrayloom.plans import move_text
from arrayloom.plans import read_move
from tests.grammar import changed
from tests.grammar import dice_of
from tests.grammar import is_good_move

THIRTY = 987654321098765432109876543210
GOOD = [("swap", 0), ("swap", 7), ("swap", THIRTY), ("join", 0), ("join", 10), ("join", 10 ** 30 - 1), ("cut", 0, 0),
        ("cut", 0, 1), ("cut", 12, 345), ("cut", THIRTY, 10 ** 29), ("cut", 3, THIRTY)]


class Plans(unittest.TestCase):
    def check(self, row, move):
        for again in range(2):
            told = read_move(row)
            self.assertEqual(told, move)
            self.assertEqual([type(told)] + [type(member) for member in told], [tuple, str] + [int] * (len(move) - 1))
            self.assertEqual(move_text(told), row)
        self.assertEqual(read_move(row=row), move)
        self.assertEqual(move_text(move=move), row)
        self.assertTrue(is_good_move(row))

    def refuse(self, row):
        for again in range(2):
            with self.assertRaises(LoomError, msg=repr(row)) as caught:
                read_move(row)
            self.assertIs(type(caught.exception), NoText)
        self.assertFalse(is_good_move(row))


class Rows(Plans):
    def test_swaps(self):
        self.check("swap 0", ("swap", 0))
        self.check("swap 7", ("swap", 7))
        self.check("swap 123", ("swap", 123))

    def test_joins(self):
        self.check("join 0", ("join", 0))
        self.check("join 60", ("join", 60))

    def test_cuts(self):
        self.check("cut 0 1", ("cut", 0, 1))
        self.check("cut 12 345", ("cut", 12, 345))
        self.check("cut 345 12", ("cut", 345, 12))

    def test_a_width_of_0_is_read(self):
        # It can not be made, but it is written well.
        self.check("cut 3 0", ("cut", 3, 0))

    def test_numbers_of_thirty_figures(self):
        for number in (THIRTY, 10 ** 29, 10 ** 30 - 1):
            self.check(f"swap {number}", ("swap", number))
            self.check(f"join {number}", ("join", number))
            self.check(f"cut {number} 2", ("cut", number, 2))
            self.check(f"cut 2 {number}", ("cut", 2, number))

    def test_texts_of_moves(self):
        self.assertEqual([move_text(move) for move in GOOD[:2] + GOOD[3:5] + GOOD[6:9]], [
            "swap 0", "swap 7", "join 0", "join 10", "cut 0 0", "cut 0 1", "cut 12 345"])
        for move in GOOD:
            self.check(move_text(move), move)


class NoRows(Plans):
    def test_an_empty_row(self):
        for row in ("", " ", "\n", "0", "3 4"):
            self.refuse(row)

    def test_another_word(self):
        for word in ("Swap", "swaps", "swa", "cuts", "CUT", "joins", "tile", "axis", "wheel", "", "swap,", "swap\t"):
            self.refuse(word)
            self.refuse(f"{word} 1")
            self.refuse(f"{word} 1 2")

    def test_a_number_too_few(self):
        for row in ("swap", "swap ", "join", "join ", "cut", "cut ", "cut 1", "cut 1 "):
            self.refuse(row)

    def test_a_number_too_many(self):
        for row in ("swap 1 2", "join 1 2", "cut 1 2 3", "swap 1 1", "join 0 0", "swap 1 swap 2", "swap 1 x"):
            self.refuse(row)

    def test_blanks_and_line_ends_too_many(self):
        for row in ("swap 1", "join 20", "cut 3 45"):
            for place in range(len(row) + 1):
                for blank in (" ", "\n", "\t", "\r", "\x0b", "\u00a0", "\u2028"):
                    self.refuse(row[:place] + blank + row[place:])
            self.refuse(row.replace(" ", "\t"))
            self.refuse(row.replace(" ", ""))
            self.refuse(row + "\n" + row)

    def test_numbers_that_are_written_otherwise(self):
        for number in ("00", "01", "007", "-0", "-1", "-10", "+1", "+0", "--1", "-", "1.0", "1e3", "1_0", "0x1",
                       "\u0661", "1\u0661", "\u00b2", "\uff11", "one", "x", "1" * 31, "-" + "1" * 30, "0" * 30,
                       "1" * 5000, ""):
            self.refuse(f"swap {number}")
            self.refuse(f"join {number}")
            self.refuse(f"cut {number} 2")
            self.refuse(f"cut 2 {number}")

    def test_changed_rows_against_a_plain_look(self):
        dice, good = dice_of(313), 0
        for again in range(4000):
            move = dice.choice(GOOD)
            row = changed(move_text(move), dice)
            if is_good_move(row):
                self.check(row, read_move(row))
                good = good + (row != move_text(move))
            else:
                self.refuse(row)
        # A look at the changes themselves: many are good ones.
        self.assertGreater(good, 200)


if __name__ == "__main__":
    unittest.main()
