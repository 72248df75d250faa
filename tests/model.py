"""The document's words once more, as slowly and as plainly as they can be said, to hold the program against."""

import copy
import re

LINES = [
    ("product", r"product (N) (D)", 0, 86400), ("apart", r"apart (N) (N) (N)", 0, 0), ("vat", r"vat (N) (D)", 1, 10**6),
    ("out", r"out (N)", 0, 0), ("drain", r"drain (N)", 0, 0), ("tee", r"tee (N)", 0, 0),
    ("pipe", r"pipe (N) (N) (N) (D) (warm|cold)", 0, 10**6), ("valve", r"valve (N) (N) (N)", 0, 0),
    ("three", r"three (N) (N) (N) (N)", 0, 0),
]
WANTS = [("joined", r"joined (N) (N)"), ("parted", r"parted (N) (N)"), ("at", r"at (N) ([01])"), ("then", r"then")]
NODES = ("vat", "out", "drain", "tee")
SORTS = {"product": (("product",), 6), "apart": (("apart",), 8), "pipe": (("pipe",), 18),
         **{word: (NODES, 18) for word in NODES}, "valve": (("valve", "three"), 8), "three": (("valve", "three"), 8)}


def match(pattern, line):
    pattern = pattern.replace("N", "[a-z][a-z0-9]{0,11}").replace("(D)", "(0|[1-9][0-9]*)")
    found = re.fullmatch(pattern.encode(), line)
    return None if found is None else [part.decode() for part in found.groups()]


class Model:
    def __init__(self):
        self.begin([])
        self.states = [self.state()]
        self.place = 0

    def begin(self, lines):
        self.lines = lines
        self.turned = frozenset()
        self.vats = {}
        self.pipes = {}
        self.clock = 0
        self.came = {}
        self.fed = {}

    # Changes: all states in a row, and the place of the one that is now

    def state(self):
        kept = {name: value for name, value in vars(self).items() if name not in ("states", "place")}
        return {name: copy.copy(value) for name, value in kept.items()}

    def call(self, name, *parts):
        """The answer to a call, with the change kept if it is one."""
        told = getattr(self, name)(*parts)
        if name not in ("undo", "redo") and self.state() != self.states[self.place]:
            self.states = (self.states[:self.place + 1] + [self.state()])[-17:]
            self.place = len(self.states) - 1
        return told

    def go_to(self, place):
        vars(self).update({name: copy.copy(value) for name, value in self.states[place].items()})
        self.place = place

    def undo(self):
        if self.place == 0:
            return [-3]
        self.go_to(self.place - 1)
        return [0, self.place]

    def redo(self):
        if self.place == len(self.states) - 1:
            return [-3]
        self.go_to(self.place + 1)
        return [0, len(self.states) - 1 - self.place]

    def names(self, words):
        return [line[1] for line in self.lines if line[0] in words]

    def line(self, name):
        return next(line for line in self.lines if line[1] == name)

    # Texts

    def plant(self, text):
        text = bytes(text)
        if len(text) > 8192:
            return [-1]
        lines = []
        pieces = text.split(b"\n")
        for number, piece in enumerate(pieces[:-1]):
            found = self.forms(piece)
            kind = self.kind(lines, found)
            if kind:
                return [-5, kind, number]
            lines.append(found[0])
        if pieces[-1]:
            return [-5, 1, len(pieces) - 1]
        self.begin(lines)
        return [0]

    def forms(self, piece):
        return [[word] + parts for word, pattern, least, most in LINES
                for parts in [match(pattern, piece)] if parts is not None]

    def more(self, line):
        if len(line) > 200:
            return [-1]
        found = self.forms(bytes(line))
        kind = self.kind(self.lines, found)
        if kind:
            return [-5, kind, len(self.lines)]
        before = self.lines
        self.lines = before + found
        met = self.met(self.turned)
        if met:
            self.lines = before
            return [-9, met[0]]
        return [0]

    def kind(self, lines, found):
        if not found:
            return 1
        word, name, *rest = found[0]
        for other, pattern, least, most in LINES:
            if other == word and "(D)" in pattern and not least <= int(found[0][4 if word == "pipe" else 2]) <= most:
                return 1
        if name in [line[1] for line in lines]:
            return 2
        words, most = SORTS[word]
        if len([line for line in lines if line[0] in words]) == most:
            return 3
        named = {"apart": rest, "pipe": rest[:2], "valve": rest, "three": rest}.get(word, [])
        wanted = ("product",) if word == "apart" else NODES
        if any(other not in [line[1] for line in lines if line[0] in wanted] for other in named):
            return 4
        if len(set(named)) != len(named):
            return 5
        if word == "apart" and any(set(line[2:]) == set(rest) for line in lines if line[0] == "apart"):
            return 5
        return 0

    def show(self):
        return [0] + list("".join(" ".join(line) + "\n" for line in self.lines).encode())

    # What is joined

    def edges(self, turned, without=None):
        for line in self.lines:
            if line[0] == "pipe" and self.what(line[1]) != "set" and line[1] != without:
                yield line[2], line[3]
            if line[0] == "valve" and line[1] in turned:
                yield line[2], line[3]
            if line[0] == "three":
                yield line[2], line[4 if line[1] in turned else 3]

    def group(self, node, turned, without=None):
        group = {node}
        edges = list(self.edges(turned, without))
        while True:
            more = {end for one, other in edges if one in group or other in group for end in (one, other)}
            if more <= group:
                return group
            group |= more

    def at(self, node):
        found = {self.vats[node][0]} if node in self.vats else set()
        return found | {self.pipes[line[1]][1] for line in self.lines
                        if line[0] == "pipe" and line[1] in self.pipes and node in line[2:4]}

    def due(self, pipe):
        """When what is full in the pipe has set or will set, or None. What has set stays written as full."""
        what, product, since = self.pipes.get(pipe, ("empty", None, None))
        if what != "full" or self.line(pipe)[5] == "warm" or self.line(product)[2] == "0":
            return None
        return since + int(self.line(product)[2])

    def what(self, pipe):
        if self.due(pipe) is not None and self.due(pipe) <= self.clock:
            return "set"
        return self.pipes.get(pipe, ("empty", None, None))[0]

    def met(self, turned):
        """The numbers of the aparts that meet."""
        aparts = [line[2:] for line in self.lines if line[0] == "apart"]
        if not aparts:
            return []
        at = {node: self.at(node) for node in self.names(NODES)}
        here = [set().union(*[at[near] for near in self.group(node, turned)]) for node in at]
        return [number for number, pair in enumerate(aparts) if any(set(pair) <= products for products in here)]

    def valve_names(self):
        return self.names(("valve", "three"))

    def valves(self):
        return [0] + [int(name in self.turned) for name in self.valve_names()]

    def turn(self, valve):
        if self.word(valve) not in self.valve_names():
            return [-4]
        return self.turns([self.valve_names().index(self.word(valve))])[:2]

    def turns(self, row):
        if len(row) > 40:
            return [-1]
        if any(number >= len(self.valve_names()) for number in row):
            return [-4]
        turned = self.turned
        for place, number in enumerate(row):
            turned = turned ^ {self.valve_names()[number]}
            met = self.met(turned)
            if met:
                return [-9, met[0], place]
        self.turned = turned
        return [0]

    def word(self, row):
        return bytes(row).decode("latin-1")

    def joined(self, node):
        if self.word(node) not in self.names(NODES):
            return [-4]
        group = self.group(self.word(node), self.turned)
        return [0] + [number for number, name in enumerate(self.names(NODES)) if name in group]

    def things(self, node):
        if self.word(node) not in self.names(NODES):
            return [-4]
        here = set().union(*[self.at(near) for near in self.group(self.word(node), self.turned)])
        return [0] + [number for number, name in enumerate(self.names(("product",))) if name in here]

    def fill(self, kilos, vat, product):
        vat, product = self.word(vat), self.word(product)
        if kilos < 1 or kilos > 10**6:
            return [-1]
        if vat not in self.names(NODES) or product not in self.names(("product",)):
            return [-4]
        if self.line(vat)[0] != "vat":
            return [-2]
        old = self.vats.get(vat, (product, 0))
        if old[0] != product:
            return [-6]
        if old[1] + kilos > int(self.line(vat)[2]):
            return [-8]
        before = dict(self.vats)
        self.vats[vat] = (product, old[1] + kilos)
        met = self.met(self.turned)
        if met:
            self.vats = before
            return [-9, met[0]]
        self.fed[product] = self.fed.get(product, 0) + kilos
        return [0]

    # Wants

    def wants(self, text):
        """The rows, or the fault."""
        rows = [[]]
        pieces = bytes(text).split(b"\n")
        for number, piece in enumerate(pieces[:-1]):
            found = [[word] + parts for word, pattern in WANTS
                     for parts in [match(pattern, piece)] if parts is not None]
            if not found:
                return [-5, 1, number], None
            want = found[0]
            if number == 12 or want == ["then"] and len(rows) == 3:
                return [-5, 3, number], None
            nodes, valves = self.names(NODES), self.valve_names()
            if want[0] == "at" and want[1] not in valves:
                return [-5, 4, number], None
            if want[0] in ("joined", "parted") and not set(want[1:]) <= set(nodes):
                return [-5, 4, number], None
            if want == ["then"]:
                rows.append([])
            else:
                rows[-1].append(want)
        if pieces[-1]:
            return [-5, 1, len(pieces) - 1], None
        return None, rows

    def holds(self, row, turned):
        for word, one, other in row:
            if word == "at" and (one in turned) != (other == "1"):
                return False
            if word != "at" and (other in self.group(one, turned)) != (word == "joined"):
                return False
        return True

    def best(self, rows, untold):
        """The plan, sought among all ways by how many turns they have; a row may be left waiting though it holds."""
        start = frozenset(self.turned)
        ways = {(start, 0): []}
        seen = set()
        while ways:
            full = {}
            for (turned, held), way in ways.items():
                for more in range(held, len(rows) + 1):
                    if all(self.holds(row, turned) for row in rows[held:more]):
                        key = (turned, more)
                        full[key] = min(full.get(key, way), way)
            ends = [way for (turned, held), way in full.items() if held == len(rows)]
            if ends:
                return min(ends)
            seen |= set(full)
            ways = {}
            for (turned, held), way in full.items():
                for number, name in enumerate(self.valve_names()):
                    key = (turned ^ {name}, held)
                    if key not in seen and set(self.met(key[0])) <= {untold}:
                        ways[key] = min(ways.get(key, way + [number]), way + [number])
        return None

    def plan(self, text):
        if len(text) > 8192:
            return [-1]
        fault, rows = self.wants(text)
        if fault:
            return fault
        best = self.best(rows, None)
        return [-7] if best is None else [0] + best

    def lifted(self, text):
        if len(text) > 8192:
            return [-1]
        fault, rows = self.wants(text)
        if fault:
            return fault
        if self.best(rows, None) is not None:
            return [-8]
        return [0] + [number for number in range(len(self.names(("apart",)))) if self.best(rows, number) is not None]

    def reach(self):
        seen = {frozenset(self.turned)}
        while True:
            more = {turned ^ {name} for turned in seen for name in self.valve_names()} - seen
            more = {turned for turned in more if not self.met(turned)}
            if not more:
                return [0, len(seen)]
            seen |= more

    # Flows

    def pipes_at(self, node):
        group = self.group(node, self.turned)
        return [name for name in self.names(("pipe",))
                if set(self.line(name)[2:4]) <= group and self.what(name) != "set"]

    def dry(self, node):
        return [name for name in self.pipes_at(node) if self.what(name) != "full"]

    def load(self, pipes):
        return sum(int(self.line(name)[4]) for name in pipes)

    def wanted(self, node):
        return self.load(self.dry(node))

    def wets(self, node):
        if self.word(node) not in self.names(NODES):
            return [-4]
        pipes = self.names(("pipe",))
        return [0, self.wanted(self.word(node))] + [pipes.index(name) for name in self.dry(self.word(node))]

    def flow(self, kilos, source, goal):
        source, goal = self.word(source), self.word(goal)
        if kilos < 1 or kilos > 10**6:
            return [-1]
        if source not in self.names(NODES) or goal not in self.names(NODES):
            return [-4]
        ends = self.names(("vat", "out", "drain"))
        if source not in self.names(("vat",)) or goal not in ends or source == goal:
            return [-2]
        group = self.group(source, self.turned)
        if goal not in group:
            return [-3]
        if group & set(ends) != {source, goal}:
            return [-10]
        if source not in self.vats:
            return [-5]
        product, there = self.vats[source]
        pipes = self.pipes_at(source)
        if any(self.pipes[name][1] != product for name in pipes if name in self.pipes):
            return [-6]
        if there < kilos:
            return [-5]
        over = kilos - self.wanted(source)
        if over < 0:
            return [-7]
        if goal in self.names(("vat",)):
            old = self.vats.get(goal, (product, 0))
            if old[0] != product:
                return [-6]
            if old[1] + over > int(self.line(goal)[2]):
                return [-8]
            if over:
                self.vats[goal] = (product, old[1] + over)
        else:
            self.come(goal, product, over)
        self.vats[source] = (product, there - kilos)
        if there == kilos:
            self.vats.pop(source)
        self.pipes.update({name: ("full", product, self.clock) for name in pipes})
        return [0, over]

    def come(self, node, product, kilos):
        if kilos:
            self.came[node, product] = self.came.get((node, product), 0) + kilos

    # What stays in pipes

    def dead(self, node, other):
        node, other = self.word(node), self.word(other)
        if not {node, other} <= set(self.names(NODES)):
            return [-4]
        if other not in self.group(node, self.turned):
            return [-3]
        found = [0]
        for number, name in enumerate(self.names(("pipe",))):
            alive = self.group(node, self.turned, name) | self.group(other, self.turned, name)
            if name in self.pipes_at(node) and not set(self.line(name)[2:4]) <= alive:
                found.append(number)
        return found

    def drain_refusal(self, drain):
        if drain not in self.names(NODES):
            return [-4]
        if self.line(drain)[0] != "drain":
            return [-2]
        if self.group(drain, self.turned) & set(self.names(("vat", "out", "drain"))) != {drain}:
            return [-10]
        return None

    def drain(self, drain):
        drain = self.word(drain)
        refusal = self.drain_refusal(drain)
        if refusal:
            return refusal
        full = [name for name in self.pipes_at(drain) if self.what(name) == "full"]
        for name in full:
            self.come(drain, self.pipes[name][1], self.load([name]))
            self.pipes[name] = ("film", self.pipes[name][1], None)
        return [0, self.load(full)]

    def wash(self, drain):
        drain = self.word(drain)
        refusal = self.drain_refusal(drain)
        if refusal:
            return refusal
        pipes = [name for name in self.pipes_at(drain) if name in self.pipes]
        if any(self.what(name) == "full" for name in pipes):
            return [-3]
        for name in pipes:
            self.pipes.pop(name)
        return [0, len(pipes)]

    def wait(self, seconds):
        if self.clock + seconds > 10**9:
            return [-1]
        self.clock += seconds
        return [0, self.clock]

    def melt(self, pipe):
        pipe = self.word(pipe)
        if pipe not in self.names(("pipe",)):
            return [-4]
        if self.what(pipe) != "set":
            return [-3]
        before = dict(self.pipes)
        self.pipes[pipe] = ("full", self.pipes[pipe][1], self.clock)
        met = self.met(self.turned)
        if met:
            self.pipes = before
            return [-9, met[0]]
        return [0]

    # Where everything is

    def product_number(self, product):
        return self.names(("product",)).index(product)

    def pipe(self, pipe):
        pipe = self.word(pipe)
        if pipe not in self.names(("pipe",)):
            return [-4]
        if pipe not in self.pipes:
            return [0, 0]
        product = self.product_number(self.pipes[pipe][1])
        return {"film": [0, 1, product], "full": [0, 2, product, self.pipes[pipe][2]], "set": [0, 3, product]}[
            self.what(pipe)]

    def node(self, node):
        node = self.word(node)
        if node not in self.names(NODES):
            return [-4]
        if self.line(node)[0] == "tee":
            return [-2]
        if self.line(node)[0] == "vat":
            return [0, self.product_number(self.vats[node][0]), self.vats[node][1]] if node in self.vats else [0]
        return [0] + [self.came.get((node, product), 0) for product in self.names(("product",))]

    def sets(self):
        dues = [(self.due(name), number) for number, name in enumerate(self.names(("pipe",)))
                if self.due(name) is not None and self.what(name) == "full"]
        return [0] + [number for due, pipe in sorted(dues) for number in (pipe, due)]

    def balance(self):
        told = [0]
        for product in self.names(("product",)):
            told.append(self.fed.get(product, 0))
            told.append(sum(kilos for name, kilos in self.vats.values() if name == product))
            told.append(self.load([name for name in self.pipes
                                   if self.pipes[name][1] == product and self.what(name) != "film"]))
            for word in ("out", "drain"):
                told.append(sum(self.came.get((node, product), 0) for node in self.names((word,))))
        return told
