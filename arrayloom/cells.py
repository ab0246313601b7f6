"""Cells of lengths, in row order, and their places."""


def cells_of(lengths):
    cells = [()]
    for length in lengths:
        cells = lengthened(cells, length)
    return cells


def lengthened(cells, length):
    longer = []
    for cell in cells:
        for number in range(length):
            longer.append(cell + (number,))
    return longer


def place_of(lengths, cell):
    place = 0
    for length, number in zip(lengths, cell):
        place = place * length + number
    return place


def cell_of(lengths, place):
    numbers = []
    rest = place
    # The last number turns fastest, so the numbers come off from the last to the first.
    for length in reversed(lengths):
        numbers.append(rest % length)
        rest = rest // length
    return tuple(reversed(numbers))
