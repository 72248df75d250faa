"""The calls that only ask: each takes the moment and what its parts mean, and gives back its answer."""

from cacaoworks.accounts import node_account, product_account
from cacaoworks.flows import kilos_wanted, unfilled
from cacaoworks.joins import dead_legs, joined_nodes, joined_pipes, joined_products
from cacaoworks.moment import EMPTY, FULL
from cacaoworks.plans import Lineups, count_reached, find_lifted, find_plan
from cacaoworks.signs import bytes_of
from cacaoworks.times import setting_times
from cacaoworks.wants import read_wants


def ask_print(moment, given):
    return [0] + bytes_of(moment.layout.lines)


def ask_valves(moment, given):
    return [0] + list(moment.positions)


def ask_joined(moment, given):
    return [0] + joined_nodes(moment, given[0])


def ask_things(moment, given):
    return [0] + joined_products(moment, given[0])


def ask_plan(moment, given):
    wants = read_wants(moment.layout, given[0])
    if len(wants.fault) > 0:
        return [-5] + wants.fault
    plan = find_plan(Lineups(moment), wants.rows, None)
    if plan is None:
        return [-7]
    return [0] + plan


def ask_lifted(moment, given):
    wants = read_wants(moment.layout, given[0])
    if len(wants.fault) > 0:
        return [-5] + wants.fault
    lineups = Lineups(moment)
    if find_plan(lineups, wants.rows, None) is not None:
        return [-8]
    return [0] + find_lifted(lineups, wants.rows)


def ask_reach(moment, given):
    return [0, count_reached(Lineups(moment))]


def ask_wets(moment, given):
    pipes = joined_pipes(moment, given[0])
    return [0, kilos_wanted(moment, pipes)] + unfilled(moment, pipes)


def ask_dead(moment, given):
    if given[1] not in joined_nodes(moment, given[0]):
        return [-3]
    return [0] + dead_legs(moment, given[0], given[1])


# Of what is in a pipe as much is told as there is to tell: nothing has no product, only what's full a moment.
def ask_pipe(moment, given):
    content = moment.pipes[given[0]]
    if content[0] == EMPTY:
        return [0, EMPTY]
    if content[0] == FULL:
        return [0] + list(content)
    return [0, content[0], content[1]]


def ask_node(moment, given):
    if moment.layout.nodes[given[0]][0] == "tee":
        return [-2]
    return [0] + node_account(moment, given[0])


def ask_sets(moment, given):
    told = [0]
    for due, pipe in setting_times(moment):
        told.extend([pipe, due])
    return told


def ask_balance(moment, given):
    told = [0]
    for product in range(len(moment.layout.products)):
        told.extend(product_account(moment, product))
    return told


ASKS = {
    2: ask_print,
    6: ask_valves,
    7: ask_joined,
    8: ask_things,
    9: ask_plan,
    10: ask_lifted,
    11: ask_reach,
    13: ask_wets,
    14: ask_dead,
    19: ask_pipe,
    20: ask_node,
    21: ask_sets,
    22: ask_balance,
}


def answer_of(call, moment, given):
    return ASKS[call](moment, given)
