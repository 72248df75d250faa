"""A plant at one moment: how its valves stand, and what is in its pipes and nodes."""

EMPTY = 0
FILM = 1
FULL = 2
SETTLED = 3


# A plant at one moment. It stays as it is: a change makes another moment.
#
# positions: of each valve, 0 or 1
# pipes: of each pipe what is in it (EMPTY, FILM, FULL, SETTLED), the product, since when it's full;
#     what isn't told is 0, so that pipes with the same in them have the same entry
# held: of each node the kilos of each product that are in it (a vat) or came to it (an out, a drain)
# supplied: of each product the kilos that were ever brought into vats
class Moment:
    def __init__(self, layout, positions, pipes, held, supplied, clock):
        self.layout = layout
        self.positions = positions
        self.pipes = pipes
        self.held = held
        self.supplied = supplied
        self.clock = clock


def beginning(layout):
    nothing = (0,) * len(layout.products)
    positions = (0,) * len(layout.valves)
    pipes = ((EMPTY, 0, 0),) * len(layout.pipes)
    return Moment(layout, positions, pipes, (nothing,) * len(layout.nodes), nothing, 0)


def copied(moment):
    return Moment(moment.layout, moment.positions, moment.pipes, moment.held, moment.supplied, moment.clock)


# What tells the moment from all others. Layouts with the same lines are the same.
def state_of(moment):
    return (moment.layout.lines, moment.positions, moment.pipes, moment.held, moment.supplied, moment.clock)


def is_same(one, other):
    return state_of(one) == state_of(other)


# The tuple with another entry at that place.
def replaced(entries, place, entry):
    return entries[:place] + (entry,) + entries[place + 1:]


# The entries, and behind them those of a longer tuple that they have no place for.
def stretched(entries, longer):
    return entries + longer[len(entries):]


# The moment on a layout that has more lines: what was there stays, what's new is as at the beginning.
def grown(moment, layout):
    fresh = beginning(layout)
    held = tuple([stretched(amounts, fresh.supplied) for amounts in moment.held])
    return Moment(
        layout,
        stretched(moment.positions, fresh.positions),
        stretched(moment.pipes, fresh.pipes),
        stretched(held, fresh.held),
        stretched(moment.supplied, fresh.supplied),
        moment.clock,
    )


def turned(positions, valve):
    return replaced(positions, valve, 1 - positions[valve])


# The moment with its valves at these positions.
def lined_up(moment, positions):
    behind = copied(moment)
    behind.positions = positions
    return behind


# The moment with so many kilos more in the node (fewer, if below 0).
def moved(moment, node, product, kilos):
    amounts = moment.held[node]
    amounts = replaced(amounts, product, amounts[product] + kilos)
    behind = copied(moment)
    behind.held = replaced(moment.held, node, amounts)
    return behind


# The moment with so many kilos brought into the vat from without.
def brought(moment, vat, product, kilos):
    behind = moved(moment, vat, product, kilos)
    behind.supplied = replaced(moment.supplied, product, moment.supplied[product] + kilos)
    return behind


# The moment with this in each of these pipes.
def piped(moment, pipes, content):
    behind = copied(moment)
    for pipe in pipes:
        behind.pipes = replaced(behind.pipes, pipe, content)
    return behind


# The moment with these pipes full of the product since now.
def filled(moment, pipes, product):
    return piped(moment, pipes, (FULL, product, moment.clock))


def is_vat(moment, node):
    return moment.layout.nodes[node][0] == "vat"


def room_left(moment, vat):
    return moment.layout.nodes[vat][1] - sum(moment.held[vat])


# The product in the vat, or None if it's empty.
def product_in(moment, vat):
    for product, kilos in enumerate(moment.held[vat]):
        if kilos > 0:
            return product
    return None


# Of each node the products that are at it. What came to outs and drains isn't there any more.
def products_at(moment):
    found = [[] for node in moment.layout.nodes]
    for node in range(len(found)):
        if is_vat(moment, node) and product_in(moment, node) is not None:
            found[node].append(product_in(moment, node))
    for pipe, content in zip(moment.layout.pipes, moment.pipes):
        if content[0] != EMPTY:
            found[pipe[0]].append(content[1])
            found[pipe[1]].append(content[1])
    return found
