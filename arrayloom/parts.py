"""The parts of a term in the order of words, each with the sums and the guards round it."""

from arrayloom.terms import Guard
from arrayloom.terms import Pair
from arrayloom.terms import Sum


# One term object may be a part in several places, so what stands round it is kept by the place, not by the term.
class Part:
    # sums are the axes of the sums round it, guards are tuples (guard, inner), inner being whether the part stands in
    # the guard's inner one; both from the outermost in.
    def __init__(self, term, sums, guards):
        self.term = term
        self.sums = sums
        self.guards = guards


def parts_of(term):
    return parts_from(Part(term, [], []))


def parts_from(part):
    parts = [part]
    for inner in parts_right_within(part):
        parts.extend(parts_from(inner))
    return parts


def parts_right_within(part):
    term = part.term
    if isinstance(term, Pair):
        return [Part(term.left, part.sums, part.guards), Part(term.right, part.sums, part.guards)]
    if isinstance(term, Sum):
        return [Part(term.body, part.sums + [term.axis], part.guards)]
    if isinstance(term, Guard):
        inner = Part(term.inner, part.sums, part.guards + [(term, True)])
        outer = Part(term.outer, part.sums, part.guards + [(term, False)])
        return [inner, outer]
    return []


def sums_at_top(term):
    axes = []
    rest = term
    while isinstance(rest, Sum):
        axes.append(rest.axis)
        rest = rest.body
    return axes


# What is left of a part within the sums that stand straight over one another from it on.
def within_sums(part):
    rest = part
    while isinstance(rest.term, Sum):
        rest = parts_right_within(rest)[0]
    return rest
