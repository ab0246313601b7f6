"""Terms: what a cell is told by, its worth in a world, what it reads, and its words."""

from arrayloom.copies import copied


class World:
    def __init__(self, wheel, lengths, numbers):
        self.wheel = wheel
        self.lengths = copied(lengths)
        self.numbers = copied(numbers)


class Term:
    pass


class Number(Term):
    def __init__(self, number):
        self.number = number

    def worth(self, at, world):
        return self.number % world.wheel

    def reads(self, at, lengths):
        return []

    def words(self):
        return [str(self.number)]


class Place(Term):
    def __init__(self, axis):
        self.axis = axis

    def worth(self, at, world):
        return at[self.axis] % world.wheel

    def reads(self, at, lengths):
        return []

    def words(self):
        return [self.axis]


class Read(Term):
    def __init__(self, array, indexes):
        self.array = array
        self.indexes = copied(indexes)

    def cell_at(self, at):
        return tuple([index_at(axis, shift, at) for axis, shift in self.indexes])

    def worth(self, at, world):
        return world.numbers[self.array][self.cell_at(at)] % world.wheel

    def reads(self, at, lengths):
        return [(self.array, self.cell_at(at))]

    def words(self):
        inside = ",".join([index_word(axis, shift) for axis, shift in self.indexes])
        return [self.array + "[" + inside + "]"]


def index_at(axis, shift, at):
    if axis == "":
        return shift
    return at[axis] + shift


def index_word(axis, shift):
    if axis == "":
        return str(shift)
    if shift == 0:
        return axis
    if shift > 0:
        return f"{axis}+{shift}"
    # A shift below 0 brings its own sign.
    return f"{axis}{shift}"


# What Plus, Minus and Times have in common: only how the two worths are joined, the sign, and the making of another one
# like it (a term is never changed) are their own.
class Pair(Term):
    def __init__(self, left, right):
        self.left = left
        self.right = right

    def worth(self, at, world):
        left = self.left.worth(at, world)
        right = self.right.worth(at, world)
        return self.joined(left, right) % world.wheel

    def reads(self, at, lengths):
        return self.left.reads(at, lengths) + self.right.reads(at, lengths)

    def words(self):
        return [self.sign()] + self.left.words() + self.right.words()


class Plus(Pair):
    def joined(self, left, right):
        return left + right

    def sign(self):
        return "+"

    def made_of(self, left, right):
        return Plus(left, right)


class Minus(Pair):
    def joined(self, left, right):
        return left - right

    def sign(self):
        return "-"

    def made_of(self, left, right):
        return Minus(left, right)


class Times(Pair):
    def joined(self, left, right):
        return left * right

    def sign(self):
        return "*"

    def made_of(self, left, right):
        return Times(left, right)


class Sum(Term):
    def __init__(self, axis, body):
        self.axis = axis
        self.body = body

    def worth(self, at, world):
        total = 0
        for number in range(world.lengths[self.axis]):
            total = total + self.body.worth(turned(at, self.axis, number), world)
        return total % world.wheel

    def reads(self, at, lengths):
        cells = []
        for number in range(lengths[self.axis]):
            cells.extend(self.body.reads(turned(at, self.axis, number), lengths))
        return cells

    def words(self):
        return ["sum", self.axis] + self.body.words()


def turned(at, axis, number):
    # `at` is the asker's own, so the sum's axis goes into a copy.
    inside = dict(at)
    inside[axis] = number
    return inside


class Guard(Term):
    def __init__(self, axis, low, high, inner, outer):
        self.axis = axis
        self.low = low
        self.high = high
        self.inner = inner
        self.outer = outer

    def lets_in(self, at):
        return self.low <= at[self.axis] < self.high

    def made_of(self, inner, outer):
        return Guard(self.axis, self.low, self.high, inner, outer)

    # The other one may ask for a cell that the world does not have, so it is never asked.
    def looked_at(self, at):
        if self.lets_in(at):
            return self.inner
        return self.outer

    def worth(self, at, world):
        return self.looked_at(at).worth(at, world)

    def reads(self, at, lengths):
        return self.looked_at(at).reads(at, lengths)

    def words(self):
        opening = ["if", self.axis, str(self.low), str(self.high)]
        return opening + self.inner.words() + self.outer.words()
