"""Rows of moves: a word and the numbers behind it."""

from arrayloom.errors import NoText
from arrayloom.texts import read_natural

NUMBERS_BEHIND = {"swap": 1, "cut": 2, "join": 1}


def read_move(row):
    words = row.split(" ")
    if words[0] not in NUMBERS_BEHIND or len(words) - 1 != NUMBERS_BEHIND[words[0]]:
        raise NoText("a move is swap N, cut N T or join N")
    return (words[0],) + tuple([read_natural(word) for word in words[1:]])


def move_text(move):
    return " ".join([str(member) for member in move])
