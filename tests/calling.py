"""Calls as the tests write them, and their answers one by one."""

from cacaoworks.plant import answers


def row(value):
    """A row's numbers: of a text its bytes, else the numbers as they are."""
    return list(value.encode("latin-1")) if isinstance(value, str) else list(value)


def with_count(value):
    numbers = row(value)
    return [len(numbers)] + numbers


def plant(text):
    return [1] + with_count(text)


def show():
    return [2]


def fill(kilos, vat, product):
    return [3, kilos] + with_count(vat) + with_count(product)


def turn(valve):
    return [4] + with_count(valve)


def turns(valves):
    return [5] + with_count(valves)


def valves():
    return [6]


def joined(node):
    return [7] + with_count(node)


def things(node):
    return [8] + with_count(node)


def plan(wants):
    return [9] + with_count(wants)


def lifted(wants):
    return [10] + with_count(wants)


def reach():
    return [11]


def flow(kilos, source, goal):
    return [12, kilos] + with_count(source) + with_count(goal)


def wets(node):
    return [13] + with_count(node)


def dead(node, other):
    return [14] + with_count(node) + with_count(other)


def drain(name):
    return [15] + with_count(name)


def wash(name):
    return [16] + with_count(name)


def wait(seconds):
    return [17, seconds]


def melt(name):
    return [18] + with_count(name)


def pipe(name):
    return [19] + with_count(name)


def node(name):
    return [20] + with_count(name)


def sets():
    return [21]


def balance():
    return [22]


def undo():
    return [23]


def redo():
    return [24]


def more(line):
    return [25] + with_count(line)


def split(told, count):
    """The answers, each a list, checked for being as many as the calls."""
    found = []
    place = 0
    while place < len(told):
        found.append(told[place + 1:place + 1 + told[place]])
        place += 1 + told[place]
    if place != len(told) or len(found) != count:
        raise AssertionError("the answers' counts don't fit: " + repr(told))
    return found


def run(*calls):
    """The answers to these calls. The list handed in must stay as it was, and all answers be whole numbers."""
    handed = [number for call in calls for number in call]
    kept = list(handed)
    told = answers(handed)
    if handed != kept:
        raise AssertionError("the list that was handed in has changed")
    if type(told) is not list or any(type(number) is not int for number in told):
        raise AssertionError("not a list of whole numbers: " + repr(told))
    return split(told, len(calls))


def last(*calls):
    return run(*calls)[-1]


def look(names):
    """Calls that only ask, and tell together what can be seen of the plant whose nodes have these names."""
    asked = [show(), valves()]
    for name in names:
        asked += [joined(name), things(name), wets(name)]
    return asked


def seen(calls, nodes, pipes):
    """What can be seen of the plant behind these calls: one answer for each thing that can be asked of it.

    A list has at most 60 calls, so the asking is done by as many lists as it needs.
    """
    asked = [show(), valves(), sets(), balance(), wait(0)]
    asked += [ask(name) for name in nodes for ask in (joined, things, wets, node)] + [pipe(name) for name in pipes]
    found = []
    step = 60 - len(calls)
    for place in range(0, len(asked), step):
        found += run(*calls, *asked[place:place + step])[len(calls):]
    return found
