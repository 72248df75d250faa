"""Time: when pipes set, and what has set molten."""

from cacaoworks.moment import FULL, SETTLED, copied, filled, piped


# The moment at which the pipe will set, or None if it won't.
def setting_time(moment, pipe):
    content = moment.pipes[pipe]
    if content[0] != FULL or not moment.layout.pipes[pipe][3]:
        return None
    seconds = moment.layout.products[content[1]]
    if seconds == 0:
        return None
    return content[2] + seconds


# Of each pipe that will set the moment and its number, the soonest first, of as soon the lesser number.
def setting_times(moment):
    dues = [(setting_time(moment, pipe), pipe) for pipe in range(len(moment.pipes))]
    return sorted([due for due in dues if due[0] is not None])


# The moment so many seconds later.
def waited(moment, seconds):
    behind = copied(moment)
    behind.clock = moment.clock + seconds
    for due, pipe in setting_times(moment):
        if due <= behind.clock:
            behind = piped(behind, [pipe], (SETTLED, moment.pipes[pipe][1], 0))
    return behind


# The moment with what has set in the pipe molten.
def molten(moment, pipe):
    return filled(moment, [pipe], moment.pipes[pipe][1])
