"""The fewest turns of valves by which wants come about, and the line-ups that turns come to."""

from cacaoworks.joins import meeting_aparts, pipe_labels, valve_labels
from cacaoworks.moment import products_at, turned


# What is so in each line-up while pipes and vats stay as they are, worked out once for each.
class Lineups:
    def __init__(self, moment):
        self.layout = moment.layout
        self.start = moment.positions
        self.piped = pipe_labels(moment)
        self.at = products_at(moment)
        self.known = {}

    def labels_and_meeting(self, positions):
        if positions not in self.known:
            labels = valve_labels(self.piped, self.layout, positions)
            self.known[positions] = (labels, meeting_aparts(self.layout, labels, self.at))
        return self.known[positions]

    # Whether none meet that are told apart by another apart than the untold one (None: by any).
    def is_safe(self, positions, untold):
        meeting = self.labels_and_meeting(positions)[1]
        return all([apart == untold for apart in meeting])

    # Each valve, rising, that can be turned safely, and the line-up behind its turn.
    def safe_turns(self, positions, untold):
        turns = [(valve, turned(positions, valve)) for valve in range(len(positions))]
        return [turn for turn in turns if self.is_safe(turn[1], untold)]

    def holds(self, positions, row):
        labels = self.labels_and_meeting(positions)[0]
        return all([is_so(want, labels, positions) for want in row])

    # How many rows have held by now, if so many had before this line-up.
    def rows_held(self, positions, rows, held):
        while held < len(rows) and self.holds(positions, rows[held]):
            held += 1
        return held


def is_so(want, labels, positions):
    if want[0] == "at":
        return positions[want[1]] == want[2]
    return (labels[want[1]] == labels[want[2]]) == (want[0] == "joined")


# The valves of the plan that's told if the untold apart weren't (None: as it is), or None if there's none.
#
# What is come to first is come to by the fewest turns, and of these by the first: each place's
# turns are tried rising, and the places in the order in which they were come to.
def find_plan(lineups, rows, untold):
    first = (lineups.start, lineups.rows_held(lineups.start, rows, 0))
    places = [first]
    plans = {first: ()}
    done = 0
    while done < len(places):
        place = places[done]
        if place[1] == len(rows):
            return list(plans[place])
        for valve, positions in lineups.safe_turns(place[0], untold):
            behind = (positions, lineups.rows_held(positions, rows, place[1]))
            if behind not in plans:
                plans[behind] = plans[place] + (valve,)
                places.append(behind)
        done += 1
    return None


# The numbers of the aparts of which each alone, untold, lets the wants come about, rising.
def find_lifted(lineups, rows):
    count = len(lineups.layout.aparts)
    return [apart for apart in range(count) if find_plan(lineups, rows, apart) is not None]


# How many line-ups safe turns come to, the one at the start among them.
def count_reached(lineups):
    places = [lineups.start]
    seen = {lineups.start: True}
    done = 0
    while done < len(places):
        for valve, positions in lineups.safe_turns(places[done], None):
            if positions not in seen:
                seen[positions] = True
                places.append(positions)
        done += 1
    return len(places)
