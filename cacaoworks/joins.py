"""Which nodes and pipes are joined, and which products meet.

Joined nodes bear the same label: a list has the label of each node.
"""

from cacaoworks.moment import SETTLED, products_at


# The labels when the two nodes of each pair are joined, too.
def merged(labels, pairs):
    for pair in pairs:
        kept = labels[pair[0]]
        dropped = labels[pair[1]]
        labels = [kept if label == dropped else label for label in labels]
    return labels


# The numbers of the pipes that join: those in which nothing has set.
def joining_pipes(moment):
    return [pipe for pipe, content in enumerate(moment.pipes) if content[0] != SETTLED]


# The labels of the nodes as these pipes alone join them.
def labels_by(layout, pipes):
    pairs = [(layout.pipes[pipe][0], layout.pipes[pipe][1]) for pipe in pipes]
    return merged(list(range(len(layout.nodes))), pairs)


# The labels of the nodes as pipes alone join them.
def pipe_labels(moment):
    return labels_by(moment.layout, joining_pipes(moment))


# The labels when valves at these positions join, too.
def valve_labels(labels, layout, positions):
    for valve, position in zip(layout.valves, positions):
        labels = merged(labels, valve[position])
    return labels


def node_labels(moment):
    return valve_labels(pipe_labels(moment), moment.layout, moment.positions)


# The numbers of the nodes joined to this one, rising.
def joined_nodes(moment, node):
    labels = node_labels(moment)
    return [other for other, label in enumerate(labels) if label == labels[node]]


# The numbers of the pipes joined to the node, rising.
def joined_pipes(moment, node):
    labels = node_labels(moment)
    pipes = moment.layout.pipes
    return [pipe for pipe in joining_pipes(moment) if labels[pipes[pipe][0]] == labels[node]]


# The labels of the nodes when this pipe joins nothing.
def labels_without(moment, pipe):
    others = [other for other in joining_pipes(moment) if other != pipe]
    return valve_labels(labels_by(moment.layout, others), moment.layout, moment.positions)


# Whether without the pipe one of its ends is joined to none of these nodes.
def is_dead_leg(moment, pipe, nodes):
    labels = labels_without(moment, pipe)
    alive = [labels[node] for node in nodes]
    ends = moment.layout.pipes[pipe]
    return labels[ends[0]] not in alive or labels[ends[1]] not in alive


# The numbers of the dead legs between two joined nodes, rising.
def dead_legs(moment, node, other):
    return [pipe for pipe in joined_pipes(moment, node) if is_dead_leg(moment, pipe, (node, other))]


# The numbers of the products at nodes joined to this one, rising.
def joined_products(moment, node):
    at = products_at(moment)
    found = []
    for other in joined_nodes(moment, node):
        found.extend(at[other])
    return sorted(set(found))


def product_labels(product, labels, at):
    return [label for label, products in zip(labels, at) if product in products]


# The numbers of the aparts whose two products meet at some node, rising.
def meeting_aparts(layout, labels, at):
    found = []
    for number, apart in enumerate(layout.aparts):
        others = product_labels(apart[1], labels, at)
        if any([label in others for label in product_labels(apart[0], labels, at)]):
            found.append(number)
    return found


# The numbers of the aparts whose two products meet at this moment, rising.
def met_at(moment):
    return meeting_aparts(moment.layout, node_labels(moment), products_at(moment))
