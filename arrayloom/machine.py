"""The machine: goes over a tape with counters, a stack of numbers and a row of boxes."""

from arrayloom.errors import NoEnd
from arrayloom.errors import Outside
from arrayloom.errors import Unwritten
from arrayloom.tape import NO_COUNTER


def go(tape, wheel, homes, boxes, most):
    machine = Machine(wheel, homes, boxes)
    place = 0
    doings = 0
    while place != len(tape):
        if doings >= most:
            raise NoEnd(f"no end within {most} doings")
        row = tape[place]
        to = DOINGS[row[0]](machine, row)
        place = place + 1 if to is None else to
        doings = doings + 1
    return (machine.boxes, machine.trace)


class Machine:
    def __init__(self, wheel, homes, boxes):
        self.wheel = wheel
        self.homes = homes
        self.boxes = list(boxes)
        self.counts = {}
        self.stack = []
        self.trace = []

    def put(self, number):
        self.stack.append(number % self.wheel)

    # The right one comes off first: it was put last.
    def two_taken(self):
        right = self.stack.pop()
        left = self.stack.pop()
        return (left, right)

    def home_of(self, array, indexes):
        return self.homes[array].get(tuple([self.index_at(counter, shift) for counter, shift in indexes]))

    def index_at(self, counter, shift):
        if counter == NO_COUNTER:
            return shift
        return self.counts[counter] + shift

    def box_of(self, array, indexes):
        home = self.home_of(array, indexes)
        if home is None:
            raise Outside(f"a cell of {array!r} has no home")
        # Below 0 Python would count from the row's end.
        if not 0 <= home < len(self.boxes):
            raise Outside(f"the row has no box {home}")
        return home

    def number_in(self, box):
        number = self.boxes[box]
        if number is None:
            raise Unwritten(f"nothing was put in the box {box} yet")
        self.trace.append(("read", box))
        return number

    def put_in(self, box, number):
        self.boxes[box] = number % self.wheel
        self.trace.append(("write", box))


# Each doing tells the place that it leads to, or None where the next place comes.
def do_push(machine, row):
    word, number = row
    machine.put(number)


def do_count(machine, row):
    word, counter = row
    machine.put(machine.counts[counter])


def do_plus(machine, row):
    left, right = machine.two_taken()
    machine.put(left + right)


def do_minus(machine, row):
    left, right = machine.two_taken()
    machine.put(left - right)


def do_times(machine, row):
    left, right = machine.two_taken()
    machine.put(left * right)


def do_load(machine, row):
    word, array, indexes = row
    machine.put(machine.number_in(machine.box_of(array, indexes)))


def do_store(machine, row):
    word, array, indexes = row
    box = machine.box_of(array, indexes)
    machine.put_in(box, machine.stack.pop())


def do_gather(machine, row):
    word, array, indexes = row
    box = machine.box_of(array, indexes)
    gathered = machine.number_in(box)
    machine.put_in(box, gathered + machine.stack.pop())


def do_skip(machine, row):
    word, array, indexes, to = row
    if machine.home_of(array, indexes) is None:
        return to
    return None


def do_jump(machine, row):
    word, to = row
    return to


def do_zero(machine, row):
    word, counter = row
    machine.counts[counter] = 0


def do_begin(machine, row):
    word, counter, outer, width = row
    machine.counts[counter] = machine.counts[outer] * width


def do_step(machine, row):
    word, counter, to = row
    machine.counts[counter] = machine.counts[counter] + 1
    return to


def do_unless(machine, row):
    word, counter, low, high, to = row
    if low <= machine.counts[counter] < high:
        return None
    return to


def do_within(machine, row):
    word, counter, outer, width, to = row
    if machine.counts[counter] < width * (machine.counts[outer] + 1):
        return None
    return to


DOINGS = {
    "push": do_push,
    "count": do_count,
    "plus": do_plus,
    "minus": do_minus,
    "times": do_times,
    "load": do_load,
    "store": do_store,
    "gather": do_gather,
    "skip": do_skip,
    "jump": do_jump,
    "zero": do_zero,
    "begin": do_begin,
    "step": do_step,
    "unless": do_unless,
    "within": do_within,
}
