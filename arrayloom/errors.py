"""The refusals: each straight under LoomError, so that one can be taken without another."""


class LoomError(ValueError):
    pass


class NoName(LoomError):
    pass


class NoShape(LoomError):
    pass


class TooMuch(LoomError):
    pass


class NoTable(LoomError):
    pass


class NoEnd(LoomError):
    pass


class Outside(LoomError):
    pass


class Unwritten(LoomError):
    pass


class NoText(LoomError):
    pass


class BeyondRim(LoomError):
    def __init__(self, name, array, spot, cell):
        self.name = name
        self.array = array
        self.spot = spot
        self.cell = cell


# The fields are written out again: under BeyondRim it would be taken where BeyondRim is meant.
class NotYet(LoomError):
    def __init__(self, name, array, spot, cell):
        self.name = name
        self.array = array
        self.spot = spot
        self.cell = cell


class NoMove(LoomError):
    def __init__(self, place):
        self.place = place


class Clash(LoomError):
    def __init__(self, first, second, array, cell):
        self.first = first
        self.second = second
        self.array = array
        self.cell = cell
