"""Homes: the box in which each wanted cell is kept for its whole life."""

from arrayloom.lives import crowd_among
from arrayloom.lives import lives_of
from arrayloom.needs import written_by


# A row of boxes without an end, of which the least free one is taken.
class BoxRow:
    def __init__(self):
        # How many boxes were ever taken: all of them are the boxes from 0 on.
        self.begun = 0
        # Those of them that are free, the greatest first, so that the least comes off the end.
        self.free = []
        # Those that are taken, by the gap at which their cells' lives end.
        self.ending = {}

    def take_for(self, life):
        first, last = life
        if len(self.free) > 0:
            box = self.free.pop()
        else:
            box = self.begun
            self.begun = self.begun + 1
        self.ending.setdefault(last, []).append(box)
        return box

    def free_at(self, gap):
        ended = self.ending.get(gap, [])
        if len(ended) > 0:
            self.free = sorted(self.free + ended, reverse=True)


def homes_of(cloth, steps):
    lives = lives_of(cloth, steps)
    gap, crowd = crowd_among(lives, len(steps))
    return (len(crowd), homes_for(cloth, steps, lives))


def homes_for(cloth, steps, lives):
    row = BoxRow()
    homes = {}
    for array in cloth.arrays:
        homes[array] = {}
    for array in cloth.tables:
        for cell, life in lives[array].items():
            homes[array][cell] = row.take_for(life)
    for place, step in enumerate(steps):
        # Asked at each step, so that at each one all boxes are free whose cells ended there or earlier.
        row.free_at(place)
        array, cell = written_by(cloth, step)
        if cell in lives[array] and cell not in homes[array]:
            homes[array][cell] = row.take_for(lives[array][cell])
    return homes
