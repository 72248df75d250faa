"""The lines of a plant: their forms, their faults, and what they say together."""

from cacaoworks.signs import is_formed, split_lines

FORMS = {
    "product": ("name", "seconds"),
    "apart": ("name", "product", "product"),
    "vat": ("name", "room"),
    "out": ("name",),
    "drain": ("name",),
    "tee": ("name",),
    "pipe": ("name", "node", "node", "load", "heat"),
    "valve": ("name", "node", "node"),
    "three": ("name", "node", "node", "node"),
}
SORTS = {
    "product": "product",
    "apart": "apart",
    "vat": "node",
    "out": "node",
    "drain": "node",
    "tee": "node",
    "pipe": "pipe",
    "valve": "valve",
    "three": "valve",
}
MOST = {"product": 6, "apart": 8, "node": 18, "pipe": 18, "valve": 8}


# What a plant's lines say, each sort numbered as its lines come.
#
# names: of each name its sort and its number
# products: the seconds
# aparts: the two products
# nodes: the line's first word and the room (0, if it's no vat)
# pipes: the two nodes, the kilos, whether it's cold
# valves: of each position the pairs of nodes that it joins
# fault: the kind and the number of the line with a fault, or nothing
class Layout:
    def __init__(self):
        self.lines = []
        self.names = {}
        self.products = []
        self.aparts = []
        self.nodes = []
        self.pipes = []
        self.valves = []
        self.fault = []


# The words of a line that name lines above it, each behind the sort that's wanted.
def named_above(words):
    parts = FORMS[words[0]]
    return [(part, word) for part, word in zip(parts, words[1:]) if part in ("product", "node")]


# The number of that sort's line with this name, or None.
def number_named(layout, sort, name):
    found = layout.names.get(name)
    if found is None or found[0] != sort:
        return None
    return found[1]


def numbers_named(layout, words):
    return [number_named(layout, sort, name) for sort, name in named_above(words)]


def how_many(layout, sort):
    return len([name for name, found in layout.names.items() if found[0] == sort])


# Whether two names in the line are one, or it tells apart what is told apart already.
def is_told_twice(layout, words, numbers):
    if len(set(numbers)) < len(numbers):
        return True
    if words[0] != "apart":
        return False
    return (numbers[0], numbers[1]) in layout.aparts or (numbers[1], numbers[0]) in layout.aparts


# The kind of the line's fault behind the layout's lines, or 0.
def line_fault(layout, line):
    words = line.split(" ")
    if not is_formed(FORMS.get(words[0]), words):
        return 1
    if words[1] in layout.names:
        return 2
    sort = SORTS[words[0]]
    if how_many(layout, sort) == MOST[sort]:
        return 3
    numbers = numbers_named(layout, words)
    if None in numbers:
        return 4
    if is_told_twice(layout, words, numbers):
        return 5
    return 0


# Puts a line without fault behind the layout's lines.
def add_line(layout, line):
    words = line.split(" ")
    sort = SORTS[words[0]]
    numbers = numbers_named(layout, words)
    layout.lines.append(line)
    layout.names[words[1]] = (sort, how_many(layout, sort))
    if sort == "product":
        layout.products.append(int(words[2]))
    elif sort == "apart":
        layout.aparts.append((numbers[0], numbers[1]))
    elif sort == "node":
        layout.nodes.append((words[0], int(words[2]) if words[0] == "vat" else 0))
    elif sort == "pipe":
        layout.pipes.append((numbers[0], numbers[1], int(words[4]), words[5] == "cold"))
    else:
        layout.valves.append(pairs_joined(words[0], numbers))


# Of each position of a valve the pairs of nodes that it joins.
def pairs_joined(word, nodes):
    if word == "valve":
        return ((), ((nodes[0], nodes[1]),))
    return (((nodes[0], nodes[1]),), ((nodes[0], nodes[2]),))


# Another layout with the same lines and a line without fault behind them.
def with_line(layout, line):
    longer = Layout()
    for other in layout.lines + [line]:
        add_line(longer, other)
    return longer


# The layout that the row of bytes is the text of, with the text's fault if it has one.
def read_layout(row):
    layout = Layout()
    lines = split_lines(row)
    for number, line in enumerate(lines[:-1]):
        kind = line_fault(layout, line)
        if kind != 0:
            layout.fault = [kind, number]
            return layout
        add_line(layout, line)
    if lines[-1] != "":
        layout.fault = [1, len(lines) - 1]
    return layout
