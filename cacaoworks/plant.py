"""The calls on a plant, and their answers number by number."""

from cacaoworks.flows import flow_refusal, flowed, kilos_wanted, unfilled
from cacaoworks.joins import joined_nodes, joined_pipes, joined_products, met_at
from cacaoworks.layout import number_named, read_layout
from cacaoworks.moment import beginning, brought, is_vat, lined_up, product_in, room_left, turned
from cacaoworks.plans import Lineups, count_reached, find_lifted, find_plan
from cacaoworks.signs import bytes_of, text_of
from cacaoworks.wants import read_wants

LONGEST_TEXT = 8192
MOST_KILOS = 1000000
MOST_TURNS = 40


# The plant that a line of calls is on, as it is now.
class Works:
    def __init__(self):
        self.now = beginning(read_layout([]))


# The number of that sort's line whose name the row of bytes is, or None.
def find_number(works, sort, row):
    return number_named(works.now.layout, sort, text_of(row))


# Makes this moment the one that's now, unless two that are told apart would meet then.
def change_to(works, moment):
    meeting = met_at(moment)
    if len(meeting) > 0:
        return [-9, meeting[0]]
    works.now = moment
    return [0]


def call_plant(works, numbers, rows):
    if len(rows[0]) > LONGEST_TEXT:
        return [-1]
    layout = read_layout(rows[0])
    if len(layout.fault) > 0:
        return [-5] + layout.fault
    works.now = beginning(layout)
    return [0]


def call_print(works, numbers, rows):
    return [0] + bytes_of(works.now.layout.lines)


def call_fill(works, numbers, rows):
    kilos = numbers[0]
    if not 1 <= kilos <= MOST_KILOS:
        return [-1]
    vat = find_number(works, "node", rows[0])
    product = find_number(works, "product", rows[1])
    if vat is None or product is None:
        return [-4]
    if not is_vat(works.now, vat):
        return [-2]
    if product_in(works.now, vat) not in (None, product):
        return [-6]
    if room_left(works.now, vat) < kilos:
        return [-8]
    return change_to(works, brought(works.now, vat, product, kilos))


def call_turn(works, numbers, rows):
    valve = find_number(works, "valve", rows[0])
    if valve is None:
        return [-4]
    return change_to(works, lined_up(works.now, turned(works.now.positions, valve)))


def call_turns(works, numbers, rows):
    valves = rows[0]
    if len(valves) > MOST_TURNS:
        return [-1]
    if any([valve >= len(works.now.positions) for valve in valves]):
        return [-4]
    moment = works.now
    for place, valve in enumerate(valves):
        moment = lined_up(moment, turned(moment.positions, valve))
        meeting = met_at(moment)
        if len(meeting) > 0:
            return [-9, meeting[0], place]
    works.now = moment
    return [0]


def call_valves(works, numbers, rows):
    return [0] + list(works.now.positions)


def call_joined(works, numbers, rows):
    node = find_number(works, "node", rows[0])
    if node is None:
        return [-4]
    return [0] + joined_nodes(works.now, node)


def call_things(works, numbers, rows):
    node = find_number(works, "node", rows[0])
    if node is None:
        return [-4]
    return [0] + joined_products(works.now, node)


def call_plan(works, numbers, rows):
    if len(rows[0]) > LONGEST_TEXT:
        return [-1]
    wants = read_wants(works.now.layout, rows[0])
    if len(wants.fault) > 0:
        return [-5] + wants.fault
    plan = find_plan(Lineups(works.now), wants.rows, None)
    if plan is None:
        return [-7]
    return [0] + plan


def call_lifted(works, numbers, rows):
    if len(rows[0]) > LONGEST_TEXT:
        return [-1]
    wants = read_wants(works.now.layout, rows[0])
    if len(wants.fault) > 0:
        return [-5] + wants.fault
    lineups = Lineups(works.now)
    if find_plan(lineups, wants.rows, None) is not None:
        return [-8]
    return [0] + find_lifted(lineups, wants.rows)


def call_reach(works, numbers, rows):
    return [0, count_reached(Lineups(works.now))]


def call_flow(works, numbers, rows):
    kilos = numbers[0]
    if not 1 <= kilos <= MOST_KILOS:
        return [-1]
    source = find_number(works, "node", rows[0])
    goal = find_number(works, "node", rows[1])
    if source is None or goal is None:
        return [-4]
    refusal = flow_refusal(works.now, kilos, source, goal)
    if refusal != 0:
        return [refusal]
    over = kilos - kilos_wanted(works.now, joined_pipes(works.now, source))
    works.now = flowed(works.now, kilos, source, goal)
    return [0, over]


def call_wets(works, numbers, rows):
    node = find_number(works, "node", rows[0])
    if node is None:
        return [-4]
    pipes = joined_pipes(works.now, node)
    return [0, kilos_wanted(works.now, pipes)] + unfilled(works.now, pipes)


CALLS = {
    1: call_plant,
    2: call_print,
    3: call_fill,
    4: call_turn,
    5: call_turns,
    6: call_valves,
    7: call_joined,
    8: call_things,
    9: call_plan,
    10: call_lifted,
    11: call_reach,
    12: call_flow,
    13: call_wets,
}
# How many whole numbers, then how many rows stand behind a call's number.
SHAPES = {
    1: (0, 1),
    2: (0, 0),
    3: (1, 2),
    4: (0, 1),
    5: (0, 1),
    6: (0, 0),
    7: (0, 1),
    8: (0, 1),
    9: (0, 1),
    10: (0, 1),
    11: (0, 0),
    12: (1, 2),
    13: (0, 1),
}


# The rows that stand from that place on, so many of them.
def read_rows(calls, place, count):
    rows = []
    while len(rows) < count:
        end = place + 1 + calls[place]
        rows.append(calls[place + 1:end])
        place = end
    return rows


# For each call how many numbers are answered, and these.
def answers(calls):
    works = Works()
    told = []
    place = 0
    while place < len(calls):
        call = calls[place]
        shape = SHAPES[call]
        place += 1 + shape[0]
        numbers = calls[place - shape[0]:place]
        rows = read_rows(calls, place, shape[1])
        place += sum([1 + len(row) for row in rows])
        answer = CALLS[call](works, numbers, rows)
        told.append(len(answer))
        told.extend(answer)
    return told
