"""A plant at one moment: how its valves stand, and what is in its pipes and nodes."""

EMPTY = 0
FILM = 1
FULL = 2
SETTLED = 3


# A plant at one moment. It stays as it is: a change makes another moment.
#
# positions: of each valve, 0 or 1
# pipes: of each pipe what is in it (EMPTY, FILM, FULL, SETTLED), the product, since when it's full
# held: of each node the kilos of each product that are in it (a vat) or came to it (an out, a drain)
class Moment:
    def __init__(self, layout, positions, pipes, held, clock):
        self.layout = layout
        self.positions = positions
        self.pipes = pipes
        self.held = held
        self.clock = clock


def beginning(layout):
    nothing = (0,) * len(layout.products)
    positions = (0,) * len(layout.valves)
    pipes = ((EMPTY, 0, 0),) * len(layout.pipes)
    return Moment(layout, positions, pipes, (nothing,) * len(layout.nodes), 0)


# The tuple with another entry at that place.
def replaced(entries, place, entry):
    return entries[:place] + (entry,) + entries[place + 1:]


def turned(positions, valve):
    return replaced(positions, valve, 1 - positions[valve])


# The moment with its valves at these positions.
def lined_up(moment, positions):
    return Moment(moment.layout, positions, moment.pipes, moment.held, moment.clock)


# The moment with so many kilos more in the node (fewer, if below 0).
def brought(moment, node, product, kilos):
    amounts = moment.held[node]
    amounts = replaced(amounts, product, amounts[product] + kilos)
    held = replaced(moment.held, node, amounts)
    return Moment(moment.layout, moment.positions, moment.pipes, held, moment.clock)


# The moment with these pipes full of the product since now.
def filled(moment, pipes, product):
    contents = moment.pipes
    for pipe in pipes:
        contents = replaced(contents, pipe, (FULL, product, moment.clock))
    return Moment(moment.layout, moment.positions, contents, moment.held, moment.clock)


def is_vat(moment, node):
    return moment.layout.nodes[node][0] == "vat"


def room_left(moment, vat):
    return moment.layout.nodes[vat][1] - sum(moment.held[vat])


# The product in the vat, or None if it's empty.
def product_in(moment, vat):
    for product, kilos in enumerate(moment.held[vat]):
        if kilos > 0:
            return product
    return None


# Of each node the products that are at it. What came to outs and drains isn't there any more.
def products_at(moment):
    found = [[] for node in moment.layout.nodes]
    for node in range(len(found)):
        if is_vat(moment, node) and product_in(moment, node) is not None:
            found[node].append(product_in(moment, node))
    for pipe, content in zip(moment.layout.pipes, moment.pipes):
        if content[0] != EMPTY:
            found[pipe[0]].append(content[1])
            found[pipe[1]].append(content[1])
    return found
