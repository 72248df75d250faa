"""The six promises over long mixed lines of all 25 calls, asked of the program alone."""

import itertools
import unittest

import calling
from calling import balance, joined, node, pipe, plan, plant, run, things, turns, valves, wait
from mixing import Mixer

ENDS = ("vat", "out", "drain")
NODES = ENDS + ("tee",)
CHANGES = ("plant", "fill", "turn", "turns", "flow", "drain", "wash", "wait", "melt", "more")
LONGEST = 40


def names(lines, *words):
    return [line[1] for line in lines if line[0] in words]


class View:
    """All that can be seen of the plant behind these calls."""

    def __init__(self, calls):
        self.calls = calls
        text = bytes(run(*calls, calling.show())[-1][1:]).decode()
        self.lines = [line.split(" ") for line in text.split("\n")[:-1]]
        self.nodes = names(self.lines, *NODES)
        self.pipes = names(self.lines, "pipe")
        self.all = [text]
        self.positions, self.balance, clock, self.sets = self.ask([valves(), balance(), wait(0), calling.sets()])
        self.joined = self.ask([joined(name) for name in self.nodes])
        self.things = self.ask([things(name) for name in self.nodes])
        self.wets = self.ask([calling.wets(name) for name in self.nodes])
        self.at = dict(zip(self.nodes, self.ask([node(name) for name in self.nodes])))
        self.within = dict(zip(self.pipes, self.ask([pipe(name) for name in self.pipes])))
        self.clock = clock

    def ask(self, asked):
        """The answers to these, by as many lists as it needs, since a list has at most 60 calls."""
        found = []
        step = 60 - len(self.calls)
        for place in range(0, len(asked), step):
            found += run(*self.calls, *asked[place:place + step])[len(self.calls):]
        self.all += found
        return found

    def joined_pipes(self, name):
        """The pipes joined to the node, by what is told of nodes and pipes."""
        near = [self.nodes[number] for number in self.joined[self.nodes.index(name)][1:]]
        return [line[1] for line in self.lines
                if line[0] == "pipe" and line[2] in near and self.within[line[1]][1] != 3]


def read_wants(text):
    return [[line.split(" ") for line in row.split("\n")[:-1]] for row in text.split("then\n")]


def holds(view, row):
    for word, one, other in row:
        if word == "at":
            valve = names(view.lines, "valve", "three").index(one)
            if view.positions[1 + valve] != int(other):
                return False
        elif (view.nodes.index(other) in view.joined[view.nodes.index(one)][1:]) != (word == "joined"):
            return False
    return True


def is_done_by(calls, row, rows):
    """Whether these turns can be turned and the rows hold on the way, the last of them at the end."""
    held = 0
    for count in range(len(row) + 1):
        if run(*calls, turns(row[:count]))[-1] != [0]:
            return False
        view = View(calls + [turns(row[:count])])
        while held < len(rows) and holds(view, rows[held]):
            held += 1
            if held == len(rows) and count < len(row):
                return False
    return held == len(rows)


class Promises(unittest.TestCase):
    def lines(self, seeds):
        """Of each seed the line's calls, as they are told and as they are handed in."""
        for seed in seeds:
            told = Mixer(seed).line()[:LONGEST]
            yield told, [getattr(calling, call[0])(*call[1:]) for call in told]

    def test_each_call(self):
        for named, calls in self.lines(range(1000, 1030)):
            before = View([])
            answers = run(*calls)
            for place, answer in enumerate(answers):
                with self.subTest(calls=named[:place + 1]):
                    view = View(calls[:place + 1])
                    self.check_nothing_meets(view)
                    self.check_balance(view)
                    if named[place][0] == "flow" and answer[0] == 0:
                        self.check_flow(before, view, named[place], answer[1])
                    if answer[0] < 0 or named[place][0] not in CHANGES + ("undo", "redo"):
                        self.assertEqual(before.all, view.all)
                    before = view

    def check_nothing_meets(self, view):
        products = names(view.lines, "product")
        for line in view.lines:
            if line[0] == "apart":
                for told in view.things:
                    self.assertFalse({products.index(line[2]), products.index(line[3])} <= set(told[1:]))

    def check_balance(self, view):
        """What is told of vats, pipes, outs and drains one by one is what is told together, and all that there is."""
        for number in range(len(names(view.lines, "product"))):
            brought, *places = view.balance[1 + 5 * number:6 + 5 * number]
            self.assertEqual(brought, sum(places))
            vats = [view.at[name][2] for name in names(view.lines, "vat") if view.at[name][1:2] == [number]]
            full = [int(line[4]) for line in view.lines
                    if line[0] == "pipe" and view.within[line[1]][1:3] in ([2, number], [3, number])]
            came = [sum(view.at[name][1 + number] for name in names(view.lines, word)) for word in ("out", "drain")]
            self.assertEqual(places, [sum(vats), sum(full)] + came)

    def check_flow(self, before, view, call, over):
        kilos, source, goal = call[1:]
        pipes = before.joined_pipes(source)
        product = before.at[source][1]
        self.assertEqual([before.lines, before.positions, before.clock], [view.lines, view.positions, view.clock])
        for name in before.pipes:
            self.assertEqual(view.within[name],
                             [0, 2, product, view.clock[1]] if name in pipes else before.within[name])
        for name in before.nodes:
            if name not in (source, goal):
                self.assertEqual(view.at[name], before.at[name])
        left = before.at[source][2] - kilos
        self.assertEqual(view.at[source], [0, product, left] if left else [0])
        wanted = [int(line[4]) for line in before.lines if line[1] in pipes and before.within[line[1]][1] != 2]
        self.assertEqual(over, kilos - sum(wanted))
        gained = [new - old for new, old in zip(view.balance, before.balance)]
        self.assertEqual(sum(gained), 0)
        word = [line[0] for line in before.lines if line[1] == goal][0]
        if word != "vat":
            self.assertEqual(gained[1 + 5 * product:6 + 5 * product],
                             [0, -kilos, sum(wanted)] + ([over, 0] if word == "out" else [0, over]))

    def test_plans(self):
        """A plan can be turned and does it, and no shorter row of turns does, nor one before it in order."""
        found = []
        for named, calls in self.lines(range(2000, 2060)):
            answers = run(*calls)
            for place, call in enumerate(named):
                if call[0] == "plan" and answers[place][0] == 0 and len(answers[place]) <= 4:
                    rows, way = read_wants(call[1]), answers[place][1:]
                    start = calls[:place]
                    self.assertTrue(is_done_by(start, way, rows), (named[:place + 1], way))
                    count = len(run(*start, valves())[-1]) - 1
                    for row in self.ways_before(count, way):
                        self.assertFalse(is_done_by(start, row, rows), (named[:place + 1], row))
                    found.append(len(way))
        self.assertGreaterEqual(set(found), {0, 1, 2})

    def ways_before(self, count, way):
        for length in range(len(way)):
            yield from map(list, itertools.product(range(count), repeat=length))
        for row in itertools.product(range(count), repeat=len(way)):
            if list(row) == way:
                return
            yield list(row)

    def test_lifted(self):
        """The same changes on the plant without an apart: there is a plan then just if the apart is lifted."""
        found = []
        for named, calls in self.lines(range(3000, 3200)):
            for place, call in enumerate(named):
                if call[0] == "lifted" and run(*calls[:place + 1])[-1][0] == 0:
                    found.append(self.check_lifted(calls[:place], call[1]))
        self.assertTrue(any(found) and not all(found))

    def check_lifted(self, start, wants):
        told = run(*start, calling.lifted(wants))[-1][1:]
        view = View(start)
        self.assertEqual(run(*start, plan(wants))[-1], [-7])
        for number, apart in enumerate(names(view.lines, "apart")):
            again = self.made_anew(view, apart)
            self.assertEqual(run(*again, plan(wants))[-1][0], 0 if number in told else -7, (start, apart))
        return len(told)

    def made_anew(self, view, apart):
        """Calls that bring about what joins and what is where as it is in this view, without the apart.

        Vats are filled and valves turned; each pipe with something in it has beside it a vat of its own at each end,
        with the same product, and what has set is left out, since it joins nothing.
        """
        products = names(view.lines, "product")
        hard = [name for name in view.pipes if view.within[name][1] == 3]
        lines = [" ".join(line) for line in view.lines if line[1] != apart and line[1] not in hard]
        calls = [turns([number for number, position in enumerate(view.positions[1:]) if position])]
        for name in names(view.lines, "vat"):
            if len(view.at[name]) > 1:
                calls.append(calling.fill(1, name, products[view.at[name][1]]))
        stand = {}
        for line in view.lines:
            if line[0] == "pipe" and view.within[line[1]][1] != 0:
                for end in line[2:4]:
                    stand[end, products[view.within[line[1]][2]]] = True
        for number, (end, product) in enumerate(stand):
            lines += [f"vat stand{number} 1", f"pipe leg{number} stand{number} {end} 0 warm"]
            calls.append(calling.fill(1, f"stand{number}", product))
        return [plant("".join(line + "\n" for line in lines))] + calls


if __name__ == "__main__":
    unittest.main()
