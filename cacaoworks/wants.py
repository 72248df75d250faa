"""The text of wants: its lines, their faults, and the rows that are wanted one after another."""

from cacaoworks.layout import number_named
from cacaoworks.signs import is_formed, split_lines

FORMS = {
    "joined": ("node", "node"),
    "parted": ("node", "node"),
    "at": ("valve", "position"),
    "then": (),
}
MOST_LINES = 12
MOST_THENS = 2


# Rows of wants; a want is its word and two numbers: of two nodes, or of a valve and its position.
#
# fault: the kind and the number of the line with a fault, or nothing
class Wants:
    def __init__(self):
        self.rows = [[]]
        self.fault = []


# The number that the word tells, or None if it's a name of nothing that's wanted.
def number_told(layout, part, word):
    if part == "position":
        return int(word)
    return number_named(layout, part, word)


def numbers_told(layout, words):
    return [number_told(layout, part, word) for part, word in zip(FORMS[words[0]], words[1:])]


# The kind of the fault of the line with this number behind the wants above it, or 0.
def want_fault(layout, wants, number, words):
    if not is_formed(FORMS.get(words[0]), words):
        return 1
    if number >= MOST_LINES:
        return 3
    if words[0] == "then" and len(wants.rows) > MOST_THENS:
        return 3
    if None in numbers_told(layout, words):
        return 4
    return 0


# Puts a line without fault behind the wants.
def add_want(layout, wants, words):
    if words[0] == "then":
        wants.rows.append([])
    else:
        numbers = numbers_told(layout, words)
        wants.rows[-1].append((words[0], numbers[0], numbers[1]))


# The wants that the row of bytes is the text of, with the text's fault if it has one.
def read_wants(layout, row):
    wants = Wants()
    lines = split_lines(row)
    for number, line in enumerate(lines[:-1]):
        words = line.split(" ")
        kind = want_fault(layout, wants, number, words)
        if kind != 0:
            wants.fault = [kind, number]
            return wants
        add_want(layout, wants, words)
    if lines[-1] != "":
        wants.fault = [1, len(lines) - 1]
    return wants
