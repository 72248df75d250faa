"""The calls that change a plant.

Each takes the moment and what its parts mean, and gives back its answer and the moment behind it. A refusal
leaves the moment that was.
"""

from cacaoworks.drains import drain_refusal, drained, joined_with, wash_refusal, washed
from cacaoworks.flows import flow_refusal, flowed, goal_refusal, kilos_in, kilos_wanted
from cacaoworks.joins import joined_pipes, met_at
from cacaoworks.layout import line_fault, read_layout, with_line
from cacaoworks.moment import FILM, FULL, SETTLED, beginning, brought, grown, is_vat, lined_up, turned
from cacaoworks.signs import text_of
from cacaoworks.times import molten, waited


# The outcome, if nothing but a meeting stands against it: no two that are told apart may meet behind it.
def unless_met(moment, behind):
    meeting = met_at(behind)
    if len(meeting) > 0:
        return ([-9, meeting[0]], moment)
    return ([0], behind)


def change_plant(moment, given):
    layout = read_layout(given[0])
    if len(layout.fault) > 0:
        return ([-5] + layout.fault, moment)
    return ([0], beginning(layout))


def change_fill(moment, given):
    kilos = given[0]
    vat = given[1]
    product = given[2]
    if not is_vat(moment, vat):
        return ([-2], moment)
    refusal = goal_refusal(moment, vat, product, kilos)
    if refusal != 0:
        return ([refusal], moment)
    return unless_met(moment, brought(moment, vat, product, kilos))


def change_turn(moment, given):
    return unless_met(moment, lined_up(moment, turned(moment.positions, given[0])))


def change_turns(moment, given):
    behind = moment
    for place, valve in enumerate(given[0]):
        behind = lined_up(behind, turned(behind.positions, valve))
        meeting = met_at(behind)
        if len(meeting) > 0:
            return ([-9, meeting[0], place], moment)
    return ([0], behind)


def change_flow(moment, given):
    kilos = given[0]
    source = given[1]
    goal = given[2]
    refusal = flow_refusal(moment, kilos, source, goal)
    if refusal != 0:
        return ([refusal], moment)
    over = kilos - kilos_wanted(moment, joined_pipes(moment, source))
    return ([0, over], flowed(moment, kilos, source, goal))


def change_drain(moment, given):
    drain = given[0]
    refusal = drain_refusal(moment, drain)
    if refusal != 0:
        return ([refusal], moment)
    return ([0, kilos_in(moment, joined_with(moment, drain, FULL))], drained(moment, drain))


def change_wash(moment, given):
    drain = given[0]
    refusal = wash_refusal(moment, drain)
    if refusal != 0:
        return ([refusal], moment)
    return ([0, len(joined_with(moment, drain, FILM))], washed(moment, drain))


def change_wait(moment, given):
    behind = waited(moment, given[0])
    return ([0, behind.clock], behind)


def change_melt(moment, given):
    pipe = given[0]
    if moment.pipes[pipe][0] != SETTLED:
        return ([-3], moment)
    return unless_met(moment, molten(moment, pipe))


def change_more(moment, given):
    layout = moment.layout
    line = text_of(given[0])
    kind = line_fault(layout, line)
    if kind != 0:
        return ([-5, kind, len(layout.lines)], moment)
    return unless_met(moment, grown(moment, with_line(layout, line)))


CHANGES = {
    1: change_plant,
    3: change_fill,
    4: change_turn,
    5: change_turns,
    12: change_flow,
    15: change_drain,
    16: change_wash,
    17: change_wait,
    18: change_melt,
    25: change_more,
}


def is_change(call):
    return call in CHANGES


def outcome_of(call, moment, given):
    return CHANGES[call](moment, given)
