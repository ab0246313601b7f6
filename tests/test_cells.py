import itertools
import unittest

from arrayloom.cells import cell_of
from arrayloom.cells import cells_of
from arrayloom.cells import place_of

SHAPES = [[], [1], [5], [1, 1, 1], [2, 3], [3, 2], [4, 1, 3], [1, 4, 1, 2], [2] * 8, [1] * 8, [3, 2, 1, 2, 1, 3, 2, 2]]
GREAT = 10 ** 30


class AllCells(unittest.TestCase):
    def test_no_lengths_have_just_one_cell(self):
        self.assertEqual(cells_of([]), [()])

    def test_one_length(self):
        self.assertEqual(cells_of([3]), [(0,), (1,), (2,)])

    def test_row_order_turns_the_last_number_fastest(self):
        self.assertEqual(cells_of([2, 3]), [(0, 0), (0, 1), (0, 2), (1, 0), (1, 1), (1, 2)])
        self.assertEqual(cells_of([3, 2]), [(0, 0), (0, 1), (1, 0), (1, 1), (2, 0), (2, 1)])

    def test_three_lengths_with_a_one_among_them(self):
        self.assertEqual(cells_of([2, 1, 2]), [(0, 0, 0), (0, 0, 1), (1, 0, 0), (1, 0, 1)])

    def test_lengths_of_one(self):
        self.assertEqual(cells_of([1]), [(0,)])
        self.assertEqual(cells_of([1, 1, 1]), [(0, 0, 0)])
        self.assertEqual(cells_of([1] * 8), [(0,) * 8])

    def test_eight_lengths(self):
        cells = cells_of([2] * 8)
        self.assertEqual(len(cells), 256)
        self.assertEqual(cells[0], (0,) * 8)
        self.assertEqual(cells[1], (0, 0, 0, 0, 0, 0, 0, 1))
        self.assertEqual(cells[2], (0, 0, 0, 0, 0, 0, 1, 0))
        self.assertEqual(cells[128], (1, 0, 0, 0, 0, 0, 0, 0))
        self.assertEqual(cells[255], (1,) * 8)

    def test_as_the_words_of_the_document(self):
        for lengths in SHAPES:
            with self.subTest(lengths=lengths):
                expected = list(itertools.product(*[range(length) for length in lengths]))
                self.assertEqual(cells_of(lengths), sorted(expected))

    def test_cells_are_tuples_in_a_list(self):
        cells = cells_of([2, 2])
        self.assertIs(type(cells), list)
        for cell in cells:
            self.assertIs(type(cell), tuple)

    def test_four_thousand_cells(self):
        cells = cells_of([4000])
        self.assertEqual(len(cells), 4000)
        self.assertEqual(cells[3999], (3999,))
        self.assertEqual(cells_of([20, 10, 20])[3999], (19, 9, 19))

    def test_lengths_stay_as_they_were(self):
        for lengths in SHAPES:
            kept = list(lengths)
            cells_of(lengths)
            self.assertEqual(lengths, kept)

    def test_a_told_list_is_the_askers_own(self):
        for lengths in SHAPES:
            with self.subTest(lengths=lengths):
                expected = list(cells_of(lengths))
                told = cells_of(lengths)
                told.append("more")
                told[0] = "other"
                self.assertEqual(cells_of(lengths), expected)
                told.clear()
                self.assertEqual(cells_of(lengths), expected)

    def test_nothing_asked_later_changes_a_told_list(self):
        told = cells_of([2, 2])
        cells_of([3])
        cells_of([2, 2]).clear()
        self.assertEqual(told, [(0, 0), (0, 1), (1, 0), (1, 1)])

    def test_a_list_of_lengths_that_is_changed_between(self):
        lengths = [2]
        told = cells_of(lengths)
        lengths.append(2)
        self.assertEqual(told, [(0,), (1,)])
        self.assertEqual(cells_of(lengths), [(0, 0), (0, 1), (1, 0), (1, 1)])


class Places(unittest.TestCase):
    def test_of_no_lengths(self):
        self.assertEqual(place_of([], ()), 0)
        self.assertEqual(cell_of([], 0), ())

    def test_place_and_cell_of_a_small_shape(self):
        self.assertEqual(place_of([2, 3], (1, 0)), 3)
        self.assertEqual(place_of([2, 3], (0, 2)), 2)
        self.assertEqual(place_of([2, 3], (1, 2)), 5)
        self.assertEqual(cell_of([2, 3], 3), (1, 0))
        self.assertEqual(cell_of([2, 3], 2), (0, 2))
        self.assertEqual(cell_of([2, 3], 5), (1, 2))

    def test_the_place_is_the_number_of_cells_ahead(self):
        for lengths in SHAPES:
            for ahead, cell in enumerate(cells_of(lengths)):
                with self.subTest(lengths=lengths, cell=cell):
                    self.assertEqual(place_of(lengths, cell), ahead)
                    self.assertEqual(cell_of(lengths, ahead), cell)

    def test_kinds(self):
        self.assertIs(type(cell_of([4, 4], 7)), tuple)
        self.assertIs(type(place_of([4, 4], (1, 3))), int)
        self.assertIs(type(place_of([], ())), int)

    def test_great_lengths(self):
        lengths = [GREAT] * 8
        last = (GREAT - 1,) * 8
        self.assertEqual(place_of(lengths, last), 10 ** 240 - 1)
        self.assertEqual(cell_of(lengths, 10 ** 240 - 1), last)
        self.assertEqual(place_of(lengths, (1,) + (0,) * 7), 10 ** 210)
        self.assertEqual(cell_of(lengths, 10 ** 210), (1,) + (0,) * 7)
        self.assertEqual(cell_of(lengths, 10 ** 210 - 1), (0,) + (GREAT - 1,) * 7)

    def test_one_great_length(self):
        self.assertEqual(place_of([GREAT], (GREAT - 1,)), GREAT - 1)
        self.assertEqual(cell_of([GREAT], GREAT - 1), (GREAT - 1,))

    def test_great_and_small_lengths_together(self):
        lengths = [3, GREAT, 1, 7]
        cell = (2, 123456789012345678901234567890, 0, 6)
        place = (2 * GREAT + 123456789012345678901234567890) * 7 + 6
        self.assertEqual(place_of(lengths, cell), place)
        self.assertEqual(cell_of(lengths, place), cell)

    def test_lengths_stay_as_they_were(self):
        lengths = [3, GREAT, 1, 7]
        place_of(lengths, (1, 2, 0, 3))
        cell_of(lengths, 5 * GREAT)
        self.assertEqual(lengths, [3, GREAT, 1, 7])

    def test_the_same_lengths_asked_again(self):
        lengths = [2, 5]
        self.assertEqual(cell_of(lengths, 7), (1, 2))
        lengths[1] = 4
        self.assertEqual(cell_of(lengths, 7), (1, 3))
        self.assertEqual(place_of(lengths, (1, 3)), 7)

    def test_arguments_by_name(self):
        self.assertEqual(cells_of(lengths=[2]), [(0,), (1,)])
        self.assertEqual(place_of(lengths=[2, 2], cell=(1, 0)), 2)
        self.assertEqual(cell_of(lengths=[2, 2], place=2), (1, 0))


if __name__ == "__main__":
    unittest.main()
