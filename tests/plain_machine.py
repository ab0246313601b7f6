"""A plain machine of points 33 and 34."""


class Refused(Exception):
    """What the machine refuses, by the refusal's name; or "" for what is not promised."""

    def __init__(self, name, words):
        super().__init__(words)
        self.name = name


def done(tape, wheel, homes, boxes, most):
    """The boxes as they are left, the trace, and how many doings there were."""
    machine = Machine(wheel, homes, boxes)
    place, doings = 0, 0
    while place != len(tape):
        if doings == most:
            raise Refused("NoEnd", "no end")
        if not 0 <= place < len(tape):
            raise Refused("", "a place off the tape")
        word, rest = tape[place][0], tape[place][1:]
        leads = getattr(machine, "do_" + word)(*rest)
        place = place + 1 if leads is None else leads
        doings = doings + 1
    return machine.boxes, machine.trace, doings


class Machine:
    """Each doing tells the place that it leads to, or None where it goes on to the next one."""

    def __init__(self, wheel, homes, boxes):
        self.wheel, self.homes, self.boxes = wheel, homes, list(boxes)
        self.counts, self.stack, self.trace = {}, [], []

    def count_of(self, counter):
        if counter not in self.counts:
            raise Refused("", f"the counter {counter} was never set")
        return self.counts[counter]

    def put(self, number):
        self.stack.append(number % self.wheel)

    def taken(self):
        if not self.stack:
            raise Refused("", "nothing on the stack")
        return self.stack.pop()

    def cell_at(self, indexes):
        return tuple(shift if counter == -1 else self.count_of(counter) + shift for counter, shift in indexes)

    def box_of(self, array, indexes, written):
        box = self.homes[array].get(self.cell_at(indexes))
        if box is None or not 0 <= box < len(self.boxes):
            raise Refused("Outside", f"no box for the cell {self.cell_at(indexes)} of {array}")
        if written and self.boxes[box] is None:
            raise Refused("Unwritten", f"nothing in the box {box} of the cell {self.cell_at(indexes)} of {array}")
        return box

    def do_push(self, number):
        self.put(number)

    def do_count(self, counter):
        self.put(self.count_of(counter))

    def do_plus(self):
        right, left = self.taken(), self.taken()
        self.put(left + right)

    def do_minus(self):
        right, left = self.taken(), self.taken()
        self.put(left - right)

    def do_times(self):
        right, left = self.taken(), self.taken()
        self.put(left * right)

    def do_load(self, array, indexes):
        box = self.box_of(array, indexes, True)
        self.trace.append(("read", box))
        self.put(self.boxes[box])

    def do_store(self, array, indexes):
        number = self.taken()
        box = self.box_of(array, indexes, False)
        self.trace.append(("write", box))
        self.boxes[box] = number

    def do_gather(self, array, indexes):
        number = self.taken()
        box = self.box_of(array, indexes, True)
        self.trace.extend([("read", box), ("write", box)])
        self.boxes[box] = (self.boxes[box] + number) % self.wheel

    def do_skip(self, array, indexes, to):
        return to if self.cell_at(indexes) not in self.homes[array] else None

    def do_jump(self, to):
        return to

    def do_zero(self, counter):
        self.counts[counter] = 0

    def do_begin(self, counter, outer, width):
        self.counts[counter] = self.count_of(outer) * width

    def do_step(self, counter, to):
        self.counts[counter] = self.count_of(counter) + 1
        return to

    def do_unless(self, counter, low, high, to):
        return None if low <= self.count_of(counter) < high else to

    def do_within(self, counter, outer, width, to):
        return None if self.count_of(counter) < width * (self.count_of(outer) + 1) else to
