"""What stands behind a call's number: how it is read, what stands against it, what it means."""

from cacaoworks.layout import number_named
from cacaoworks.signs import text_of

# Of each call the parts behind its number: whole numbers first, then rows.
PARTS = {
    1: ("text",),
    2: (),
    3: ("kilos", "node", "product"),
    4: ("valve",),
    5: ("turns",),
    6: (),
    7: ("node",),
    8: ("node",),
    9: ("text",),
    10: ("text",),
    11: (),
    12: ("kilos", "node", "node"),
    13: ("node",),
    14: ("node", "node"),
    15: ("node",),
    16: ("node",),
    17: ("seconds",),
    18: ("pipe",),
    19: ("pipe",),
    20: ("node",),
    21: (),
    22: (),
    23: (),
    24: (),
    25: ("line",),
}
NUMBERS = ("kilos", "seconds")
NAMES = ("node", "product", "pipe", "valve")
LONGEST = {"text": 8192, "line": 200, "turns": 40}
MOST_KILOS = 1000000
LATEST = 1000000000


# The part that stands at this place: a whole number, or a row behind how many numbers it has.
def part_at(calls, place, part):
    if part in NUMBERS:
        return calls[place]
    return calls[place + 1:place + 1 + calls[place]]


# The place behind the part that stands at this place.
def place_behind(calls, place, part):
    if part in NUMBERS:
        return place + 1
    return place + 1 + calls[place]


# Whether the part is more than any may be.
def is_beyond(moment, part, handed):
    if part == "kilos":
        return not 1 <= handed <= MOST_KILOS
    if part == "seconds":
        return moment.clock + handed > LATEST
    return part in LONGEST and len(handed) > LONGEST[part]


# What the part means on this layout: of a name its line's number. None, if there's no such.
def meaning(layout, part, handed):
    if part in NAMES:
        return number_named(layout, part, text_of(handed))
    if part == "turns" and any([valve >= len(layout.valves) for valve in handed]):
        return None
    return handed
