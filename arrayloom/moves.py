"""Moves: loops are exchanged, cut and joined; each move makes another nest of the same steps."""

from arrayloom.errors import NoMove
from arrayloom.nests import NO_OUTER
from arrayloom.nests import body_of
from arrayloom.nests import first_nest
from arrayloom.nests import is_loop
from arrayloom.nests import with_body


def planned(cloth, moves):
    nest = first_nest(cloth)
    for place, move in enumerate(moves):
        try:
            nest = moved(nest, move)
        except NoMove as refusal:
            # A move by itself knows nothing of the row that it stands in.
            raise NoMove(place) from refusal
    return nest


def moved(nest, move):
    fresh, body = nest
    path = path_to(move[1], body)
    if path == []:
        raise NoMove(0)
    taken = 1 if move[0] == "cut" else 0
    return (fresh + taken, moved_along(path, body, move, fresh))


# The places, from the outermost body in, that lead to the loop with that number; none where there is no such loop.
def path_to(number, body):
    for place, node in enumerate(body):
        if is_loop(node):
            if node[1] == number:
                return [place]
            within = path_to(number, body_of(node))
            if within != []:
                return [place] + within
    return []


def moved_along(path, body, move, fresh):
    place = path[0]
    if len(path) == 1:
        return moved_at(place, body, move, fresh)
    loop = body[place]
    inside = moved_along(path[1:], body_of(loop), move, fresh)
    return body[:place] + (with_body(loop, inside),) + body[place + 1:]


def moved_at(place, body, move, fresh):
    loop = body[place]
    behind = body[place + 1:]
    form = (move[0], len(move))
    if form == ("swap", 2):
        return body[:place] + (swapped(loop),) + behind
    if form == ("cut", 3):
        return body[:place] + (cut_by(move[2], loop, fresh),) + behind
    if form == ("join", 2):
        return body[:place] + (joined_with(behind, loop),) + behind[1:]
    raise NoMove(0)


def swapped(loop):
    body = body_of(loop)
    if len(body) != 1 or not is_loop(body[0]):
        raise NoMove(0)
    kind, number, size, width, outer, inside = body[0]
    # A loop that counts within another one has to stand within it.
    if outer == loop[1]:
        raise NoMove(0)
    return with_body(body[0], (with_body(loop, inside),))


def cut_by(tile, loop, fresh):
    kind, number, size, width, outer, body = loop
    if outer != NO_OUTER or tile < 1:
        raise NoMove(0)
    beginnings = (size + tile - 1) // tile
    within = (kind, fresh, size, tile, number, renumbered(body, number, fresh))
    return (kind, number, beginnings, width, outer, (within,))


def joined_with(behind, loop):
    if len(behind) == 0 or not is_loop(behind[0]):
        raise NoMove(0)
    kind, number, size, width, outer, body = behind[0]
    if loop[2:5] != (size, width, outer):
        raise NoMove(0)
    return with_body(loop, body_of(loop) + renumbered(body, number, loop[1]))


# The same nodes, with the new number wherever they speak of the loop with the old one.
def renumbered(body, old, new):
    return tuple([renumbered_node(node, old, new) for node in body])


def renumbered_node(node, old, new):
    if is_loop(node):
        kind, number, size, width, outer, body = node
        return (kind, number, size, width, instead(outer, old, new), renumbered(body, old, new))
    kind, number, line, word, cell, turn = node
    return (kind, number, line, word, instead_in(cell, old, new), instead_in(turn, old, new))


def instead_in(numbers, old, new):
    return tuple([instead(number, old, new) for number in numbers])


def instead(number, old, new):
    if number == old:
        return new
    return number
