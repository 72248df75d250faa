"""The calls on a plant, and their answers number by number."""

from cacaoworks.asks import answer_of
from cacaoworks.changes import is_change, outcome_of
from cacaoworks.parts import PARTS, is_beyond, meaning, part_at, place_behind
from cacaoworks.works import Works, move_on, redo, undo

UNDO = 23
REDO = 24


# The answer to a call whose parts mean what is given.
def done(works, call, given):
    if call == UNDO:
        return undo(works)
    if call == REDO:
        return redo(works)
    if is_change(call):
        outcome = outcome_of(call, works.now, given)
        move_on(works, outcome[1])
        return outcome[0]
    return answer_of(call, works.now, given)


# The answer to a call with these parts. What is refused of any call comes before what the call itself refuses.
def called(works, call, handed):
    parts = PARTS[call]
    if any([is_beyond(works.now, part, value) for part, value in zip(parts, handed)]):
        return [-1]
    given = [meaning(works.now.layout, part, value) for part, value in zip(parts, handed)]
    if None in given:
        return [-4]
    return done(works, call, given)


# For each call how many numbers are answered, and these.
def answers(calls):
    works = Works()
    told = []
    place = 0
    while place < len(calls):
        call = calls[place]
        place += 1
        handed = []
        for part in PARTS[call]:
            handed.append(part_at(calls, place, part))
            place = place_behind(calls, place, part)
        answer = called(works, call, handed)
        told.append(len(answer))
        told.extend(answer)
    return told
