"""What flows through joined pipes, and what they want."""

from cacaoworks.joins import joined_nodes, joined_pipes
from cacaoworks.moment import EMPTY, FULL, filled, is_vat, moved, product_in, room_left


# The kilos that these pipes have if they're full.
def kilos_in(moment, pipes):
    return sum([moment.layout.pipes[pipe][2] for pipe in pipes])


# Those of the pipes that aren't full.
def unfilled(moment, pipes):
    return [pipe for pipe in pipes if moment.pipes[pipe][0] != FULL]


# The kilos that the pipes want till all are full. A film doesn't make it less.
def kilos_wanted(moment, pipes):
    return kilos_in(moment, unfilled(moment, pipes))


# Whether what flows comes to a halt there: at all nodes but tees.
def is_end(moment, node):
    return moment.layout.nodes[node][0] != "tee"


# What stands against a flow between these two nodes, or 0.
def ends_refusal(moment, source, goal):
    if not is_vat(moment, source) or not is_end(moment, goal) or source == goal:
        return -2
    nodes = joined_nodes(moment, source)
    if goal not in nodes:
        return -3
    if any([is_end(moment, node) for node in nodes if node not in (source, goal)]):
        return -10
    return 0


# Whether there's another product in one of these pipes.
def mixes(moment, pipes, product):
    contents = [moment.pipes[pipe] for pipe in pipes]
    return any([content[0] != EMPTY and content[1] != product for content in contents])


# What stands against so many kilos coming to that node, or 0.
def goal_refusal(moment, goal, product, kilos):
    if not is_vat(moment, goal):
        return 0
    if product_in(moment, goal) not in (None, product):
        return -6
    if room_left(moment, goal) < kilos:
        return -8
    return 0


# The first thing that stands against so many kilos flowing from the source to the goal, or 0.
def flow_refusal(moment, kilos, source, goal):
    refusal = ends_refusal(moment, source, goal)
    if refusal != 0:
        return refusal
    product = product_in(moment, source)
    if product is None:
        return -5
    pipes = joined_pipes(moment, source)
    if mixes(moment, pipes, product):
        return -6
    if moment.held[source][product] < kilos:
        return -5
    wanted = kilos_wanted(moment, pipes)
    if kilos < wanted:
        return -7
    return goal_refusal(moment, goal, product, kilos - wanted)


# The moment behind a flow that nothing stands against.
def flowed(moment, kilos, source, goal):
    product = product_in(moment, source)
    pipes = joined_pipes(moment, source)
    over = kilos - kilos_wanted(moment, pipes)
    moment = moved(moment, source, product, 0 - kilos)
    moment = filled(moment, pipes, product)
    return moved(moment, goal, product, over)
