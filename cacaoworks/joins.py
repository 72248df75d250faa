"""Which nodes and pipes are joined, and which products meet.

Joined nodes bear the same label: a list has the label of each node.
"""

from cacaoworks.moment import SETTLED, products_at


# The labels when the two nodes of each pair are joined, too.
def merged(labels, pairs):
    for pair in pairs:
        kept = labels[pair[0]]
        dropped = labels[pair[1]]
        labels = [kept if label == dropped else label for label in labels]
    return labels


# The labels of the nodes as pipes alone join them.
def pipe_labels(moment):
    layout = moment.layout
    pairs = [(pipe[0], pipe[1]) for pipe, content in zip(layout.pipes, moment.pipes) if content[0] != SETTLED]
    return merged(list(range(len(layout.nodes))), pairs)


# The labels when valves at these positions join, too.
def valve_labels(labels, layout, positions):
    for valve, position in zip(layout.valves, positions):
        labels = merged(labels, valve[position])
    return labels


def node_labels(moment):
    return valve_labels(pipe_labels(moment), moment.layout, moment.positions)


# The numbers of the nodes joined to this one, rising.
def joined_nodes(moment, node):
    labels = node_labels(moment)
    return [other for other, label in enumerate(labels) if label == labels[node]]


# The numbers of the pipes joined to the node, rising.
def joined_pipes(moment, node):
    labels = node_labels(moment)
    ends = [labels[pipe[0]] for pipe in moment.layout.pipes]
    return [pipe for pipe, label in enumerate(ends) if label == labels[node] and moment.pipes[pipe][0] != SETTLED]


# The numbers of the products at nodes joined to this one, rising.
def joined_products(moment, node):
    at = products_at(moment)
    found = []
    for other in joined_nodes(moment, node):
        found.extend(at[other])
    return sorted(set(found))


def product_labels(product, labels, at):
    return [label for label, products in zip(labels, at) if product in products]


# The numbers of the aparts whose two products meet at some node, rising.
def meeting_aparts(layout, labels, at):
    found = []
    for number, apart in enumerate(layout.aparts):
        others = product_labels(apart[1], labels, at)
        if any([label in others for label in product_labels(apart[0], labels, at)]):
            found.append(number)
    return found


# The numbers of the aparts whose two products meet at this moment, rising.
def met_at(moment):
    return meeting_aparts(moment.layout, node_labels(moment), products_at(moment))
