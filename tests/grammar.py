"""A plain look at texts by points 36 and 37: by patterns of words, and by counting the terms that are still to come."""

import random
import re

NUMBER = r"(0|-?[1-9][0-9]{0,29})"
NAME = r"[a-z]+"
INDEX = rf"({NAME}([+-][1-9][0-9]{{0,29}})?|{NUMBER})"
READ = rf"{NAME}\[({INDEX}(,{INDEX})*)?\]"
ROWS = (rf"axis {NAME} ([1-9]|[1-5][0-9]|60)", rf"table {NAME}( {NAME})*", rf"let {NAME}( {NAME})* = [^=\n]+",
        rf"out {NAME}")
WHEEL = r"wheel ([2-9]|[1-9][0-9]{1,29})"
MOVE = r"(swap|join|cut (0|[1-9][0-9]{0,29})) (0|[1-9][0-9]{0,29})"

# What a text is changed by: signs, words and rows that belong somewhere, and some that belong nowhere.
SIGNS = list("abxz019-+*=[], \n\tAZ_.%\u00e4\u0663\u00b2\r\x0b\x85\u2028")
WORDS = ["wheel", "axis", "table", "let", "out", "if", "sum", "+", "-", "*", "=", "0", "1", "-1", "-0", "00", "60",
         "61", "x", "a[x]", "a[]", "a[x+0]", "a[x-1,2]", "b[0,-2]", "if[x]", "", "9" * 30, "9" * 31, "-" + "9" * 30]
ROWS_OF_ALL_SORTS = ["wheel 2", "axis q 3", "table t", "table t x", "let w = 1", "let w x = x", "out w", ""]


def is_good_text(text):
    """Whether the text is to be read."""
    wheel, *rows = text.split("\n")
    if not re.fullmatch(WHEEL, wheel):
        return False
    latest = 0
    for row in rows:
        sorts = [sort for sort in range(latest, 4) if re.fullmatch(ROWS[sort], row)]
        if not sorts:
            return False
        latest = sorts[0]
        if latest == 2 and not is_good_term(row.partition(" = ")[2].split(" ")):
            return False
    return True


def is_good_term(words):
    # What is to come: a "term", or a pattern of one word.
    awaited = ["term"]
    for word in words:
        if not awaited:
            return False
        kind = awaited.pop()
        if kind != "term":
            if not re.fullmatch(kind, word):
                return False
        elif word in ("+", "-", "*"):
            awaited.extend(["term", "term"])
        elif word == "sum":
            awaited.extend(["term", NAME])
        elif word == "if":
            awaited.extend(["term", "term", NUMBER, NUMBER, NAME])
        elif not re.fullmatch(rf"{NUMBER}|{NAME}|{READ}", word):
            return False
    return not awaited


def is_good_move(row):
    return re.fullmatch(MOVE, row) is not None


def changed(text, dice):
    """The text with one small change, at times with two."""
    for again in range(dice.choice([1, 1, 1, 2])):
        parting, others = dice.choice([("", SIGNS), (" ", WORDS), ("\n", ROWS_OF_ALL_SORTS)])
        members = text.split(parting) if parting else list(text)
        place = dice.randint(0, len(members))
        deed = dice.choice(["put", "instead", "without", "twice", "exchanged"])
        if deed == "put":
            members.insert(place, dice.choice(others))
        elif deed == "instead":
            members[place:place + 1] = [dice.choice(others)]
        elif deed == "without":
            members[place:place + 1] = []
        elif deed == "twice":
            members[place:place] = members[place:place + 1]
        else:
            members[place:place + 2] = members[place:place + 2][::-1]
        text = parting.join(members)
    return text


def dice_of(seed):
    return random.Random(seed)
