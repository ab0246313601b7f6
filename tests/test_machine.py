import copy
import random
import unittest

from arrayloom.errors import LoomError
from arrayloom.errors import NoEnd
from arrayloom.errors import Outside
from arrayloom.errors import Unwritten
from arrayloom.machine import go
from tests.plain_machine import Refused
from tests.plain_machine import done

FAR = 10 ** 29
HOMES = {"a": {(0,): 0, (1,): 1, (2,): 2}, "n": {(): 3}, "g": {(0, 0): 0, (0, 1): 1, (1, 0): 2, (1, 1): 4}}
TO_N = ("store", "n", ())
FROM_N = ("load", "n", ())


def outcome_of(asked, *told):
    try:
        return asked(*told)[:2]
    except LoomError as refusal:
        return type(refusal).__name__
    except Refused as refusal:
        return refusal.name


def counting(counter, number):
    """Rows that set the counter to the number, 0 or more, wherever they stand ahead of all others."""
    return [("zero", counter)] + [("step", counter, place) for place in range(2, number + 2)]


class Machine(unittest.TestCase):
    def check(self, tape, boxes, left, trace, wheel=10, homes=HOMES):
        """Told at the least number of doings, and refused at one less; what is handed in stays."""
        kept = copy.deepcopy((tape, homes, boxes))
        doings = done(tape, wheel, homes, boxes, 10 ** 5)[2]
        for most in (doings, doings + 1, 10 ** 7):
            told = go(tape, wheel, homes, boxes, most)
            self.assertEqual(told, (left, trace))
            self.assertEqual([type(told), type(told[0]), type(told[1])], [tuple, list, list])
            told[0].append(7)
            told[1].clear()
        self.assertEqual(go(tape=tape, wheel=wheel, homes=homes, boxes=boxes, most=doings), (left, trace))
        if doings > 0:
            self.refuse(NoEnd, tape, boxes, wheel, homes, doings - 1)
            self.refuse(NoEnd, tape, boxes, wheel, homes, 0)
        self.assertEqual((tape, homes, boxes), kept)

    def refuse(self, refusal, tape, boxes, wheel=10, homes=HOMES, most=1000):
        kept = copy.deepcopy((tape, homes, boxes))
        for again in range(2):
            with self.assertRaises(LoomError) as caught:
                go(tape, wheel, homes, boxes, most)
            self.assertIs(type(caught.exception), refusal)
        self.assertEqual((tape, homes, boxes), kept)

    def check_number(self, rows, number, wheel=10):
        """The rows leave just this number on the stack, and nothing in boxes."""
        self.check(rows + [TO_N], [None] * 4, [None, None, None, number], [("write", 3)], wheel)

    def check_leads(self, rows, leads):
        """Whether the last of the rows, which leads to the place of the second push, does so."""
        to = len(rows) + 2
        tape = rows[:-1] + [rows[-1] + (to,), ("push", 1), TO_N]
        trace = [] if leads else [("write", 3)]
        self.check(tape, [None] * 4, [None, None, None, None if leads else 1], trace)


class Numbers(Machine):
    def test_push(self):
        for number in (0, 1, 9):
            self.check_number([("push", number)], number)
        self.check_number([("push", 10)], 0)
        self.check_number([("push", 11)], 1)
        self.check_number([("push", -1)], 9)
        self.check_number([("push", -10)], 0)
        self.check_number([("push", -11)], 9)
        self.check_number([("push", 7)], 1, wheel=2)

    def test_push_of_thirty_figures(self):
        wheel = 10 ** 30 - 1
        self.check_number([("push", FAR)], FAR, wheel)
        self.check_number([("push", -FAR)], wheel - FAR, wheel)
        self.check_number([("push", wheel)], 0, wheel)
        self.check_number([("push", FAR)], 5, wheel=7)

    def test_count(self):
        for number, worth in ((0, 0), (1, 1), (9, 9), (10, 0), (11, 1), (23, 3)):
            self.check_number(counting(4, number) + [("count", 4)], worth)
        self.check_number(counting(0, 1) + [("begin", 1, 0, -3), ("count", 1)], 7)
        self.check_number(counting(0, 2) + [("begin", 1, 0, FAR), ("count", 1)], 2 * FAR, wheel=10 ** 30 - 1)

    def test_a_count_stays_whole_for_all_but_the_stack(self):
        # A counter at 12 puts 2 by the wheel of 10, but is 12 for a look and 12 for a cell.
        self.check_leads(counting(0, 12) + [("unless", 0, 12, 13)], False)
        homes = {"a": {(12,): 0, (2,): 1}}
        self.check(counting(0, 12) + [("count", 0), ("store", "a", ((0, 0),))], [None, None], [2, None],
                   [("write", 0)], homes=homes)

    def test_pairs(self):
        for word, worth in (("plus", 9), ("minus", 5), ("times", 4)):
            self.check_number([("push", 7), ("push", 2), (word,)], worth)

    def test_pairs_by_the_wheel(self):
        self.check_number([("push", 7), ("push", 3), ("plus",)], 0)
        self.check_number([("push", 7), ("push", 5), ("plus",)], 2)
        self.check_number([("push", 2), ("push", 7), ("minus",)], 5)
        self.check_number([("push", 7), ("push", 7), ("minus",)], 0)
        self.check_number([("push", 0), ("push", 1), ("minus",)], 9)
        self.check_number([("push", 5), ("push", 2), ("times",)], 0)
        self.check_number([("push", -1), ("push", -3), ("times",)], 3)
        self.check_number([("push", -1), ("push", 3), ("times",)], 7)

    def test_pairs_of_thirty_figures(self):
        wheel = 10 ** 30 - 1
        self.check_number([("push", wheel - 1), ("push", wheel - 1), ("times",)], 1, wheel)
        self.check_number([("push", wheel - 1), ("push", wheel - 1), ("plus",)], wheel - 2, wheel)
        self.check_number([("push", 1), ("push", wheel - 1), ("minus",)], 2, wheel)

    def test_the_two_on_top_are_taken(self):
        self.check_number([("push", 8), ("push", 5), ("push", 1), ("minus",), ("minus",)], 4)
        self.check_number([("push", 8), ("push", 5), ("minus",), ("push", 1), ("minus",)], 2)
        self.check_number([("push", 6), ("push", 8), ("push", 3), ("minus",)], 5)

    def test_numbers_left_on_the_stack(self):
        self.check([("push", 1), ("push", 2)], [None], [None], [])


class Boxes(Machine):
    def test_load(self):
        self.check([("load", "a", ((-1, 1),)), TO_N], [5, 6, 7, None], [5, 6, 7, 6], [("read", 1), ("write", 3)])
        self.check([FROM_N, ("store", "a", ((-1, 0),))], [None, None, None, 0], [0, None, None, 0],
                   [("read", 3), ("write", 0)])

    def test_a_load_leaves_the_box(self):
        self.check([FROM_N, FROM_N, ("times",), TO_N], [None, None, None, 4], [None, None, None, 6],
                   [("read", 3), ("read", 3), ("write", 3)])

    def test_store(self):
        self.check([("push", 4), TO_N], [1, 2, 3, 9], [1, 2, 3, 4], [("write", 3)])
        self.check([("push", 4), TO_N], [None] * 4, [None, None, None, 4], [("write", 3)])
        self.check([("push", 4), ("push", 5), TO_N, ("store", "a", ((-1, 2),))], [None] * 4, [None, None, 4, 5],
                   [("write", 3), ("write", 2)])

    def test_gather(self):
        self.check([("push", 4), ("gather", "n", ())], [1, 2, 3, 5], [1, 2, 3, 9], [("read", 3), ("write", 3)])
        self.check([("push", 5), ("gather", "n", ())], [1, 2, 3, 5], [1, 2, 3, 0], [("read", 3), ("write", 3)])
        self.check([("push", -4), ("gather", "n", ())], [1, 2, 3, 2], [1, 2, 3, 8], [("read", 3), ("write", 3)])
        self.check([("push", 3), ("push", 4), ("gather", "n", ()), ("gather", "n", ())], [1, 2, 3, 5], [1, 2, 3, 2],
                   [("read", 3), ("write", 3)] * 2)

    def test_boxes_that_nothing_touches_stay(self):
        self.check([("push", 1), TO_N], [None, 3, None, None, None, 0], [None, 3, None, 1, None, 0], [("write", 3)])

    def test_several_cells_with_one_home(self):
        self.check([("load", "g", ((-1, 0), (-1, 1))), ("gather", "a", ((-1, 1),))], [0, 4, 0], [0, 8, 0],
                   [("read", 1), ("read", 1), ("write", 1)])

    def test_a_greater_row_than_homes(self):
        self.check([("push", 1), TO_N, FROM_N, ("store", "p", ())], [None] * 60, [None] * 3 + [1] + [None] * 55 + [1],
                   [("write", 3), ("read", 3), ("write", 59)], homes={"n": {(): 3}, "p": {(): 59}})


class Addresses(Machine):
    def check_cell(self, rows, indexes, cell):
        homes = {"t": {cell: 0, (): 1, (0,): 2, (0, 0): 3}}
        self.check(rows + [("push", 7), ("store", "t", indexes)], [None] * 4, [7, None, None, None], [("write", 0)],
                   homes=homes)

    def test_a_counter(self):
        for number in (1, 2, 11):
            self.check_cell(counting(0, number), ((0, 0),), (number,))
            self.check_cell(counting(5, number), ((5, 0), (5, 0)), (number, number))

    def test_shifts_behind_a_counter(self):
        self.check_cell(counting(0, 3), ((0, 1),), (4,))
        self.check_cell(counting(0, 3), ((0, -1),), (2,))
        self.check_cell(counting(0, 3), ((0, -5),), (-2,))
        self.check_cell(counting(0, 3), ((0, FAR),), (FAR + 3,))
        self.check_cell(counting(0, 3), ((0, -FAR),), (3 - FAR,))

    def test_no_counter(self):
        self.check_cell(counting(0, 3), ((-1, 1),), (1,))
        self.check_cell(counting(0, 3), ((-1, 15),), (15,))
        self.check_cell(counting(1, 3), ((-1, -2),), (-2,))
        self.check_cell([], ((-1, -FAR),), (-FAR,))
        self.check_cell([], ((-1, 0), (-1, 2), (-1, 0)), (0, 2, 0))

    def test_counters_in_their_order(self):
        rows = counting(0, 3) + [("zero", 1), ("step", 1, 6)]
        self.check_cell(rows, ((0, 0), (1, 0)), (3, 1))
        self.check_cell(rows, ((1, 0), (0, 0)), (1, 3))
        self.check_cell(rows, ((1, -1), (-1, 8), (0, 2)), (0, 8, 5))

    def test_the_count_as_it_is_now(self):
        tape = [("zero", 0), ("unless", 0, 0, 3, 5), ("count", 0), ("store", "a", ((0, 0),)), ("step", 0, 1)]
        self.check(tape, [None] * 3, [0, 1, 2], [("write", 0), ("write", 1), ("write", 2)])

    def test_a_cell_without_indexes_and_arrays_of_their_own(self):
        homes = {"t": {(): 0}, "u": {(): 1}}
        self.check([("push", 3), ("store", "u", ()), ("push", 4), ("store", "t", ())], [None, None], [4, 3],
                   [("write", 1), ("write", 0)], homes=homes)


class Leads(Machine):
    def test_skip(self):
        self.check_leads([("skip", "a", ((-1, 0),))], False)
        self.check_leads([("skip", "a", ((-1, 2),))], False)
        self.check_leads([("skip", "a", ((-1, 3),))], True)
        self.check_leads([("skip", "a", ((-1, -1),))], True)
        self.check_leads([("skip", "a", ())], True)
        self.check_leads([("skip", "n", ())], False)
        self.check_leads(counting(0, 2) + [("skip", "a", ((0, 0),))], False)
        self.check_leads(counting(0, 2) + [("skip", "a", ((0, 1),))], True)

    def test_any_number_is_a_home(self):
        for home in (0, 1, 3, 4, 99, -1, -4, FAR, -FAR):
            tape = [("skip", "p", ((-1, 5),), 3), ("push", 1), TO_N]
            self.check(tape, [None] * 4, [None, None, None, 1], [("write", 3)], homes={"n": {(): 3}, "p": {(5,): home}})
            tape[0] = ("skip", "p", ((-1, 6),), 3)
            self.check(tape, [None] * 4, [None] * 4, [], homes={"n": {(): 3}, "p": {(5,): home}})

    def test_a_skip_asks_for_no_box(self):
        # Neither that there is one, nor that something was put in it.
        self.check([("skip", "n", (), 0)], [], [], [])
        self.check([("skip", "n", (), 0)], [None] * 4, [None] * 4, [])
        self.check([("skip", "a", ((-1, 9),), 1)], [], [], [])

    def test_jump_ahead_and_back(self):
        self.check([("jump", 1)], [], [], [])
        self.check([("jump", 3), ("push", 1), TO_N, ("push", 2), TO_N], [None] * 4, [None, None, None, 2],
                   [("write", 3)])
        # To the row 4, back to the row 1, and from there to the end.
        self.check([("jump", 4), ("push", 5), TO_N, ("jump", 5), ("jump", 1)], [None] * 4, [None, None, None, 5],
                   [("write", 3)])

    def test_jumps_to_the_end(self):
        self.check([("jump", 3), ("jump", 0), ("jump", 0)], [None], [None], [])

    def test_a_jump_to_itself_has_no_end(self):
        for most in (0, 1, 2, 1000, 10 ** 5):
            self.refuse(NoEnd, [("jump", 0)], [], most=most)

    def test_zero(self):
        self.check_number(counting(0, 3) + [("zero", 0), ("count", 0)], 0)
        self.check_number(counting(0, 3) + [("zero", 1), ("count", 0)], 3)

    def test_begin(self):
        for number, width, worth in ((0, 5, 0), (1, 5, 5), (3, 2, 6), (3, 1, 3), (4, 25, 100)):
            rows = counting(0, number) + [("begin", 1, 0, width)]
            self.check_number(rows + [("count", 1)], worth, wheel=1000)
            self.check_number(rows + [("count", 0)], number, wheel=1000)
        self.check_number(counting(0, 3) + [("begin", 0, 0, 4), ("count", 0)], 12, wheel=1000)
        self.check_number([("zero", 0), ("begin", 1, 0, FAR), ("count", 1)], 0)

    def test_step(self):
        self.check_number([("zero", 0), ("step", 0, 2), ("count", 0)], 1)
        self.check_number([("zero", 0), ("zero", 1), ("step", 0, 3), ("count", 1)], 0)
        tape = [("zero", 0), ("step", 0, 4), ("push", 1), TO_N]
        self.check(tape, [None] * 4, [None] * 4, [])
        # Back to the look, until the counter is 4.
        tape = [("zero", 0), ("unless", 0, 0, 4, 3), ("step", 0, 1), ("count", 0), TO_N]
        self.check(tape, [None] * 4, [None, None, None, 4], [("write", 3)])

    def test_unless(self):
        for low, high, leads in ((3, 4, False), (3, 9, False), (0, 4, False), (4, 9, True), (0, 3, True), (3, 3, True),
                                 (4, 3, True), (-9, -2, True), (-9, 9, False), (-FAR, FAR, False), (FAR, FAR, True)):
            self.check_leads(counting(0, 3) + [("unless", 0, low, high)], leads)
        self.check_leads([("zero", 0), ("unless", 0, 0, 1)], False)
        self.check_leads([("zero", 0), ("unless", 0, 1, 2)], True)
        self.check_leads([("zero", 0), ("unless", 0, -1, 0)], True)

    def test_within(self):
        # The counter 1 is looked at against T times one more than the counter 0, which is 2.
        for number, width, leads in ((5, 2, False), (6, 2, True), (7, 2, True), (0, 2, False), (2, 1, False),
                                     (3, 1, True), (8, 3, False), (9, 3, True), (9, FAR, False)):
            rows = counting(1, number)
            rows = rows + [("zero", 0), ("step", 0, len(rows) + 2), ("step", 0, len(rows) + 3)]
            self.check_leads(rows + [("within", 1, 0, width)], leads)
        self.check_leads([("zero", 0), ("zero", 1), ("within", 1, 0, 1)], False)
        self.check_leads(counting(1, 1) + [("zero", 0), ("within", 1, 0, 1)], True)
        self.check_leads([("zero", 0), ("within", 0, 0, 1)], False)

    def test_looks_leave_the_counters(self):
        for look in (("unless", 0, 0, 9, 6), ("unless", 0, 5, 9, 6), ("within", 0, 1, 9, 6), ("within", 0, 1, 1, 6)):
            rows = counting(0, 3) + [("zero", 1), look]
            self.check_number(rows + [("count", 0), ("count", 1), ("plus",)], 3)

    def test_loops_within_loops(self):
        tape = [("zero", 0), ("unless", 0, 0, 2, 9), ("zero", 1), ("unless", 1, 0, 2, 8), ("count", 0), ("count", 1),
                ("store", "g", ((0, 0), (1, 0))), ("step", 1, 3), ("step", 0, 1)]
        self.check(tape, [None] * 5, [0, 1, 0, None, 1], [("write", 0), ("write", 1), ("write", 2), ("write", 4)])


class Ends(Machine):
    def test_an_empty_tape(self):
        for boxes in ([], [None], [3, None, 0]):
            self.check([], boxes, list(boxes), [])
            self.assertEqual(go([], 10, {}, boxes, 0), (boxes, []))

    def test_the_end_at_most_doings(self):
        tape = [("push", 1)] * 7
        self.assertEqual(go(tape, 10, {}, [], 7), ([], []))
        self.refuse(NoEnd, tape, [], most=6)
        self.refuse(NoEnd, tape, [], most=0)

    def test_rows_count_as_often_as_they_are_done(self):
        tape = [("zero", 0), ("unless", 0, 0, 3, 3), ("step", 0, 1)]
        self.assertEqual(go(tape, 10, {}, [], 8), ([], []))
        self.refuse(NoEnd, tape, [], most=7)

    def test_rows_that_are_led_over_do_not_count(self):
        tape = [("jump", 6)] + [("push", 1)] * 5
        self.assertEqual(go(tape, 10, {}, [], 1), ([], []))

    def test_ahead_of_one_more_doing(self):
        # The doing that would be one too many would itself be refused, and is not done.
        for bad in (("load", "a", ((-1, 9),)), ("load", "a", ((-1, 0),)), ("gather", "n", ()), ("store", "g", ())):
            tape = [("push", 1), ("push", 2), bad, bad]
            self.refuse(NoEnd, tape, [None] * 4, most=2)
            with self.assertRaises((Outside, Unwritten)):
                go(tape, 10, HOMES, [None] * 4, 3)
        self.refuse(NoEnd, [("load", "a", ((-1, 9),))], [], most=0)

    def test_ten_million_doings(self):
        tape = [("zero", 0), ("unless", 0, 0, 4999999, 3), ("step", 0, 1)]
        self.assertEqual(go(tape, 10, {}, [], 10 ** 7), ([], []))
        tape = [("zero", 0), ("zero", 0), ("unless", 0, 0, 4999999, 4), ("step", 0, 2)]
        with self.assertRaises(NoEnd):
            go(tape, 10, {}, [], 10 ** 7)


class Refusals(Machine):
    def test_a_cell_without_a_home(self):
        for array, indexes in (("a", ((-1, 3),)), ("a", ((-1, -1),)), ("a", ()), ("a", ((-1, 0), (-1, 0))),
                               ("n", ((-1, 0),)), ("g", ((-1, 0), (-1, 2))), ("e", ())):
            homes = {**HOMES, "e": {}}
            for boxes in ([None] * 5, [0, 1, 2, 3, 4], []):
                self.refuse(Outside, [("load", array, indexes)], boxes, homes=homes)
                self.refuse(Outside, [("push", 1), ("store", array, indexes)], boxes, homes=homes)
                self.refuse(Outside, [("push", 1), ("gather", array, indexes)], boxes, homes=homes)

    def test_a_box_that_the_row_does_not_have(self):
        for length in (0, 1, 3):
            for home in (length, length + 1, FAR, -1, -length, -length - 1, -FAR):
                if 0 <= home < length:
                    continue
                homes = {"p": {(): home}}
                for boxes in ([None] * length, [5] * length):
                    self.refuse(Outside, [("load", "p", ())], boxes, homes=homes)
                    self.refuse(Outside, [("push", 1), ("store", "p", ())], boxes, homes=homes)
                    self.refuse(Outside, [("push", 1), ("gather", "p", ())], boxes, homes=homes)

    def test_the_first_and_the_last_box_are_there(self):
        for home in (0, 2):
            left = [5, 5, 5]
            left[home] = 1
            self.check([("push", 1), ("store", "p", ())], [5, 5, 5], left, [("write", home)], homes={"p": {(): home}})

    def test_a_box_that_nothing_was_put_in(self):
        for box in range(4):
            boxes = [0, 1, 2, 3]
            boxes[box] = None
            homes = {"p": {(): box}}
            self.refuse(Unwritten, [("load", "p", ())], boxes, homes=homes)
            self.refuse(Unwritten, [("push", 1), ("gather", "p", ())], boxes, homes=homes)
            boxes[box] = 0
            self.assertEqual(go([("load", "p", ())], 10, homes, boxes, 9)[1], [("read", box)])

    def test_a_box_is_written_from_the_store_on(self):
        self.refuse(Unwritten, [FROM_N, TO_N, FROM_N], [None] * 4)
        self.check([("push", 0), TO_N, FROM_N, ("gather", "n", ())], [None] * 4, [None, None, None, 0],
                   [("write", 3), ("read", 3), ("read", 3), ("write", 3)])

    def test_what_comes_first_is_refused(self):
        self.refuse(Outside, [("load", "a", ((-1, 9),)), FROM_N], [None] * 4)
        self.refuse(Unwritten, [FROM_N, ("load", "a", ((-1, 9),))], [None] * 4)
        self.refuse(NoEnd, [("jump", 0), FROM_N], [None] * 4)

    def test_a_row_that_is_led_over_is_not_refused(self):
        self.check([("jump", 2), FROM_N], [], [], [])
        self.check([("skip", "a", ((-1, 9),), 2), ("load", "a", ((-1, 9),))], [], [], [])


class TheAskersOwn(Machine):
    def test_the_boxes_are_another_list(self):
        for tape in ([], [("push", 1), TO_N], [("jump", 1)]):
            boxes = [1, 2, 3, 4]
            left, trace = go(tape, 10, HOMES, boxes, 9)
            self.assertIsNot(left, boxes)
            left.clear()
            self.assertEqual(boxes, [1, 2, 3, 4])

    def test_asked_again_behind_a_change_of_what_was_told(self):
        tape, boxes = [("push", 1), TO_N, FROM_N], [1, 2, 3, 4]
        first = go(tape, 10, HOMES, boxes, 9)
        kept = copy.deepcopy(first)
        second = go(tape, 10, HOMES, boxes, 9)
        second[0].reverse()
        second[1].append(("read", 0))
        self.assertEqual(first, kept)
        self.assertEqual(go(tape, 10, HOMES, boxes, 9), kept)

    def test_what_was_handed_in_is_changed_later(self):
        tape, boxes, homes = [("push", 1), TO_N], [1, 2, 3, 4], {"n": {(): 3}}
        told = go(tape, 10, homes, boxes, 9)
        tape.clear()
        boxes.clear()
        homes["n"].clear()
        self.assertEqual(told, ([1, 2, 3, 1], [("write", 3)]))
        self.assertEqual(go(tape, 10, homes, boxes, 9), ([], []))

    def test_a_machine_begins_anew(self):
        go([("push", 1), ("zero", 0), ("step", 0, 3)], 10, HOMES, [], 9)
        self.check_number([("zero", 0), ("count", 0)], 0)


class ManyTapes(Machine):
    def setUp(self):
        self.dice = random.Random(211)

    def address(self):
        array = self.dice.choice("aang")
        indexes = [(self.dice.choice([-1, 0, 1]), self.dice.choice([-1, 0, 0, 1])) for again in range(2)]
        return (array, tuple(indexes[:{"a": 1, "n": 0, "g": 2}[array]]))

    def row(self, length):
        """A row of any word; places lie on the tape or right behind it."""
        word = self.dice.choice(["push", "push", "push", "count", "plus", "minus", "times", "load", "store", "gather",
                                 "skip", "jump", "zero", "begin", "step", "unless", "within"])
        one, two = self.dice.choice([(0, 1), (1, 0)])
        to = self.dice.randint(0, length)
        rests = {"push": (self.dice.randint(-30, 30),), "count": (one,), "load": self.address(),
                 "store": self.address(), "gather": self.address(), "skip": self.address() + (to,), "jump": (to,),
                 "zero": (one,), "begin": (one, two, self.dice.randint(1, 3)), "step": (one, to),
                 "unless": (one, self.dice.randint(-1, 2), self.dice.randint(0, 4), to),
                 "within": (one, two, self.dice.randint(1, 3), to)}
        return (word,) + rests.get(word, ())

    def test_against_a_plain_machine(self):
        seen = {}
        for again in range(6000):
            rest = [self.row(16) for place in range(12)]
            tape = [("zero", 0), ("zero", 1), ("push", 3), ("push", 4)] + rest
            boxes = [self.dice.choice([None, 1, 7, 9]) for box in range(self.dice.choice([3, 5, 5, 6]))]
            told = (tape, self.dice.choice([2, 10]), HOMES, boxes, 60)
            wanted = outcome_of(done, *told)
            if wanted != "":
                self.assertEqual(outcome_of(go, *told), wanted)
            name = wanted if isinstance(wanted, str) else "told"
            seen[name] = seen.get(name, 0) + 1
        # A look at the tapes themselves: all that can come comes often.
        for name in ("told", "NoEnd", "Outside", "Unwritten"):
            self.assertGreater(seen[name], 300, name)


if __name__ == "__main__":
    unittest.main()
