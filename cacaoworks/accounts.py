"""Where every kilo is."""

from cacaoworks.flows import kilos_in
from cacaoworks.moment import FULL, SETTLED, is_vat, product_in


# What is in a vat, or the kilos that came to an out or a drain, product by product.
def node_account(moment, node):
    if not is_vat(moment, node):
        return list(moment.held[node])
    product = product_in(moment, node)
    if product is None:
        return []
    return [product, moment.held[node][product]]


# The kilos of the product that are in vats, or came to outs, to drains: to the nodes with this word.
def kilos_at(moment, word, product):
    return sum([amounts[product] for node, amounts in zip(moment.layout.nodes, moment.held) if node[0] == word])


# The kilos of the product in pipes. A film has none.
def kilos_piped(moment, product):
    return kilos_in(moment, [pipe for pipe, content in enumerate(moment.pipes) if is_full_of(content, product)])


def is_full_of(content, product):
    return content[0] in (FULL, SETTLED) and content[1] == product


# Of the product the kilos: brought, in vats, in pipes, come to outs, to drains.
def product_account(moment, product):
    return [
        moment.supplied[product],
        kilos_at(moment, "vat", product),
        kilos_piped(moment, product),
        kilos_at(moment, "out", product),
        kilos_at(moment, "drain", product),
    ]
