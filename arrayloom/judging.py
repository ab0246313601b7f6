"""The judge: refuses an order in which a step would come ahead of one that it needs."""

from arrayloom.errors import Clash
from arrayloom.needs import marks_awaited
from arrayloom.needs import marks_left
from arrayloom.needs import written_by


# Goes from the last step to the first, so that at each step all that come behind it are known. The needs themselves are
# not written out: one cell may have thousands of adds, and each step that reads it needs all of them.
def judge(cloth, steps):
    behind = {}
    for step in reversed(steps):
        for mark in marks_awaited(cloth, step):
            if mark in behind:
                needed = behind[mark]
                array, cell = written_by(cloth, needed)
                raise Clash(needed, step, array, cell)
        for mark in marks_left(cloth, step):
            behind[mark] = step
