"""Pipes drained and washed at a drain."""

from cacaoworks.flows import is_end, kilos_in
from cacaoworks.joins import joined_nodes, joined_pipes
from cacaoworks.moment import EMPTY, FILM, FULL, moved, piped


# What stands against draining at this node, or 0.
def drain_refusal(moment, node):
    if moment.layout.nodes[node][0] != "drain":
        return -2
    others = [other for other in joined_nodes(moment, node) if other != node]
    if any([is_end(moment, other) for other in others]):
        return -10
    return 0


# The pipes joined to the node in which there's this.
def joined_with(moment, node, what):
    return [pipe for pipe in joined_pipes(moment, node) if moment.pipes[pipe][0] == what]


# The moment with the full pipes joined to the drain emptied into it.
def drained(moment, drain):
    for pipe in joined_with(moment, drain, FULL):
        product = moment.pipes[pipe][1]
        moment = moved(moment, drain, product, kilos_in(moment, [pipe]))
        moment = piped(moment, [pipe], (FILM, product, 0))
    return moment


# What stands against washing at this node, or 0.
def wash_refusal(moment, node):
    refusal = drain_refusal(moment, node)
    if refusal == 0 and len(joined_with(moment, node, FULL)) > 0:
        return -3
    return refusal


# The moment with the films gone from the pipes joined to the drain.
def washed(moment, drain):
    return piped(moment, joined_with(moment, drain, FILM), (EMPTY, 0, 0))
