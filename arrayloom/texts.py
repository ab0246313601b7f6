"""Texts of programs: rows of words. A text is read only if it is just what would be written out again."""

from arrayloom.errors import NoText
from arrayloom.programs import Let
from arrayloom.programs import Program
from arrayloom.shapes import is_of_letters
from arrayloom.terms import Guard
from arrayloom.terms import Minus
from arrayloom.terms import Number
from arrayloom.terms import Place
from arrayloom.terms import Plus
from arrayloom.terms import Read
from arrayloom.terms import Sum
from arrayloom.terms import Times

MOST_FIGURES = 30
LEAST_WHEEL = 2
LEAST_LENGTH = 1
MOST_LENGTH = 60
# The sorts of rows behind the wheel's, in the order in which they come.
SORTS = ("axis", "table", "let", "out")


def read_program(text):
    rows = [row.split(" ") for row in text.split("\n")]
    wheel = read_wheel(rows[0])
    found = by_sorts(rows[1:])
    axes = [read_axis(words) for words in found["axis"]]
    tables = [read_table(words) for words in found["table"]]
    lets = [read_let(words) for words in found["let"]]
    outs = [read_out(words) for words in found["out"]]
    return Program(wheel, axes, tables, lets, outs)


# For each sort, the words of its rows behind the first one.
def by_sorts(rows):
    found = {}
    for sort in SORTS:
        found[sort] = []
    latest = 0
    for words in rows:
        if words[0] not in SORTS[latest:]:
            raise NoText("a row of another sort, or out of its order")
        latest = SORTS.index(words[0])
        found[words[0]].append(words[1:])
    return found


def read_wheel(words):
    look_number_of(words, 2)
    wheel = read_natural(words[1])
    if words[0] != "wheel" or wheel < LEAST_WHEEL:
        raise NoText("the first row tells no wheel")
    return wheel


def read_axis(words):
    look_number_of(words, 2)
    length = read_natural(words[1])
    if not LEAST_LENGTH <= length <= MOST_LENGTH:
        raise NoText(f"{length} is no length of an axis")
    return (read_name(words[0]), length)


def read_table(words):
    names = read_names(words)
    return (names[0], names[1:])


def read_let(words):
    if "=" not in words:
        raise NoText("a let without the word =")
    parting = words.index("=")
    names = read_names(words[:parting])
    return Let(names[0], names[1:], read_term(words[parting + 1:]))


def read_out(words):
    look_number_of(words, 1)
    return read_name(words[0])


def look_number_of(words, number):
    if len(words) != number:
        raise NoText("a word too few or too many")


# A name, and the names of axes behind it.
def read_names(words):
    if len(words) == 0:
        raise NoText("a name too few")
    return [read_name(word) for word in words]


def read_name(word):
    if not is_of_letters(word):
        raise NoText("a name is letters from a to z")
    return word


def read_number(word):
    if not word.startswith("-"):
        return read_natural(word)
    return -read_counting(word[1:])


# A number from 1 on, as it stands behind a sign: neither -0 nor a shift of 0 is written.
def read_counting(figures):
    number = read_natural(figures)
    if number == 0:
        raise NoText("a 0 behind a sign")
    return number


def read_natural(figures):
    if not 1 <= len(figures) <= MOST_FIGURES or not all([is_figure(sign) for sign in figures]):
        raise NoText("a number is at most 30 figures")
    if figures.startswith("0") and len(figures) > 1:
        raise NoText("noughts ahead")
    return int(figures)


# Python's own question lets other signs by than the ten from 0 to 9.
def is_figure(sign):
    return "0" <= sign <= "9"


# The words of one term, which are taken one after the other.
class WordRow:
    def __init__(self, row):
        self.row = row
        self.gone = 0

    def next_word(self):
        if self.gone == len(self.row):
            raise NoText("a word too few")
        self.gone = self.gone + 1
        return self.row[self.gone - 1]


def read_term(words):
    row = WordRow(words)
    term = next_term(row)
    if row.gone != len(words):
        raise NoText("a word too many")
    return term


def next_term(row):
    word = row.next_word()
    if word in ("+", "-", "*"):
        return next_pair(word, row)
    if word == "sum":
        axis = read_name(row.next_word())
        return Sum(axis, next_term(row))
    if word == "if":
        return next_guard(row)
    return read_leaf(word)


def next_pair(sign, row):
    left = next_term(row)
    right = next_term(row)
    if sign == "+":
        return Plus(left, right)
    if sign == "-":
        return Minus(left, right)
    return Times(left, right)


def next_guard(row):
    axis = read_name(row.next_word())
    low = read_number(row.next_word())
    high = read_number(row.next_word())
    inner = next_term(row)
    return Guard(axis, low, high, inner, next_term(row))


def read_leaf(word):
    if "[" in word:
        return read_read(word)
    if begins_number(word):
        return Number(read_number(word))
    return Place(read_name(word))


def begins_number(text):
    return text.startswith("-") or is_figure(text[:1])


def read_read(word):
    array, opening, inside = word.partition("[")
    if not inside.endswith("]"):
        raise NoText("a read without its end")
    indexes = inside[:-1]
    if indexes == "":
        return Read(read_name(array), [])
    return Read(read_name(array), [read_index(index) for index in indexes.split(",")])


def read_index(index):
    if begins_number(index):
        return ("", read_number(index))
    if "+" in index:
        axis, sign, figures = index.partition("+")
        return (read_name(axis), read_counting(figures))
    if "-" in index:
        axis, sign, figures = index.partition("-")
        return (read_name(axis), -read_counting(figures))
    return (read_name(index), 0)


def program_text(program):
    rows = [["wheel", str(program.wheel)]]
    rows.extend([["axis", name, str(length)] for name, length in program.axes])
    rows.extend([["table", name] + axes for name, axes in program.tables])
    rows.extend([["let", let.name] + let.axes + ["="] + let.term.words() for let in program.lets])
    rows.extend([["out", name] for name in program.outs])
    return "\n".join([" ".join(words) for words in rows])
