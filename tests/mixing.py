"""Long mixed lines of all 25 calls, made by a fixed seed.

The model goes along while a line is made, so that what is asked for can mostly be done: valves are turned as they
have to be before something flows or is drained, and pipes are waited for till they set.
"""

import random

import calling
from model import NODES, Model

ENDS = ("vat", "out", "drain")
VALVES = ("valve", "three")
WAITS = (0, 1, 2, 4, 5, 15, 20, 60) * 4 + (1000000000,)
MOST_CALLS = 60


class Mixer:
    def __init__(self, seed):
        self.dice = random.Random(seed)
        self.model = Model()
        self.calls = []
        self.searches = 0
        self.lifted_asked = False

    # What there is to choose from

    def names(self, *words):
        return self.model.names(words)

    def any_name(self):
        return self.dice.choice([line[1] for line in self.model.lines] + ["zz", "", "A", "n0 "])

    def one_of(self, names, sure=0.96):
        """One of these names, but now and then another, which may be none."""
        return self.dice.choice(names) if names and self.dice.random() < sure else self.any_name()

    def plant(self):
        dice = self.dice
        products = [f"p{k}" for k in range(dice.randint(1, 3))]
        lines = [f"product {name} {dice.choice((0, 5, 20, 60))}" for name in products]
        pairs = [(a, b) for k, a in enumerate(products) for b in products[:k]]
        told = dice.sample(pairs, dice.randint(0, len(pairs)))
        lines += [f"apart a{k} {one} {other}" for k, (one, other) in enumerate(told)]
        ends = ["n0", "n1"] + ["n2"] * (dice.random() < 0.4)
        lines += [f"vat {name} {dice.choice((20, 40, 100))}" for name in ends]
        lines += [f"drain {name}" for name in ("d0", "d1")[:dice.choice((1, 1, 2))]]
        lines += ["out o0"] * (dice.random() < 0.6)
        ends = [line.split(" ")[1] for line in lines if line.split(" ")[0] in ENDS]
        tees = [f"t{k}" for k in range(dice.randint(2, 4))]
        lines += [f"tee {name}" for name in tees]
        legs = [dice.sample(tees if dice.random() < 0.8 else tees + ends, 2) for _ in range(dice.randint(0, 2))]
        for k, (one, other) in enumerate(list(zip(tees, tees[1:])) + legs):
            lines.append(f"pipe l{k} {one} {other} {dice.choice((0, 1, 2, 3))} {dice.choice(('warm', 'cold', 'cold'))}")
        for k, end in enumerate(ends):
            one, other = dice.sample(tees, 2)
            word = dice.choice(("valve",) * 5 + ("three",))
            lines.append(f"valve v{k} {end} {one}" if word == "valve" else f"three v{k} {one} {other} {end}")
        if len(ends) < 6 and dice.random() < 0.5:
            one, other = dice.sample(tees, 2)
            lines.append(f"valve vv {one} {other}")
        return "".join(line + "\n" for line in lines)

    # Calls

    def put(self, name, *parts):
        if len(self.calls) < MOST_CALLS:
            rows = [calling.row(part) if isinstance(part, str) else part for part in parts]
            self.calls.append((name,) + parts)
            self.model.call(name, *rows)

    def line_up(self, wants):
        """Turns the valves so that these wants hold, if it can be done."""
        way = self.model.best([wants], None)
        if way:
            self.put("turns", way)
        return way is not None

    def parted_from(self, node, others):
        return [["parted", node, other] for other in others]

    def fill(self):
        hard = [line for line in self.model.lines if line[0] == "pipe" and self.model.what(line[1]) == "set"]
        if hard and self.dice.random() < 0.3:
            self.fill_beside(self.dice.choice(hard))
        vat = self.one_of(self.names("vat"))
        product = self.one_of(self.names("product"))
        if vat in self.model.vats and self.dice.random() < 0.8:
            product = self.model.vats[vat][0]
        self.put("fill", self.dice.choice((1, 5, 9, 10, 15, 20, 30) * 2 + (0, 1000000, 1000001)), vat, product)

    def fill_beside(self, line):
        """Something into a vat that is let near the pipe, in which something has set: molten, they may meet."""
        empty = [name for name in self.names("vat") if name not in self.model.vats]
        if empty:
            self.put("fill", 5, self.dice.choice(empty), self.one_of(self.names("product")))
            self.line_up([["joined", self.dice.choice(line[2:4]), self.dice.choice(empty)]])

    def flow(self):
        source = self.one_of(sorted(self.model.vats) or self.names("vat"))
        goal = self.one_of([name for name in self.names(*ENDS) if name != source])
        named = set(self.names(*ENDS))
        if {source, goal} <= named and self.dice.random() < 0.9:
            self.line_up([["joined", source, goal]] + self.parted_from(source, sorted(named - {source, goal})))
        wanted = self.model.wanted(source) if source in named else 0
        kilos = self.dice.choice((max(1, wanted), wanted + 1, wanted + 2, wanted + 4, 5, 20, max(0, wanted - 1)))
        self.put("flow", kilos, source, goal)

    def clean(self):
        if not self.model.pipes and self.dice.random() < 0.8:
            return
        drain = self.one_of(self.names("drain"))
        if drain in self.names("drain") and self.dice.random() < 0.9:
            self.line_up(self.parted_from(drain, [name for name in self.names(*ENDS) if name != drain]))
        for name in self.dice.choice((["drain"], ["wash"], ["drain", "wash"], ["drain", "wash"])):
            self.put(name, drain)

    def wait(self):
        dues = self.model.sets()[2::2]
        if dues and self.dice.random() < 0.6:
            self.put("wait", max(0, self.dice.choice(dues) - self.model.clock - self.dice.choice((0, 0, 1))))
        elif self.dice.random() < 0.5:
            self.put("wait", self.dice.choice(WAITS))

    def melt(self):
        hard = [name for name in self.names("pipe") if self.model.what(name) == "set"]
        if hard or self.dice.random() < 0.3:
            self.put("melt", self.one_of(hard or self.names("pipe")))

    def turn(self):
        if self.dice.random() < 0.5:
            self.put("turn", self.one_of(self.names(*VALVES)))
        else:
            count = len(self.names(*VALVES)) + (self.dice.random() < 0.05)
            row = [self.dice.randrange(count) for _ in range(self.dice.randint(0, 3))] if count else []
            self.put("turns", row + row[::-1] if self.dice.random() < 0.3 else row)

    def step_back(self):
        back = self.dice.choice((1, 1, 1, 2, 2, 3, 3, 17))
        for _ in range(back):
            self.put("undo")
        for _ in range(self.dice.choice((0, 1, back, back + 1))):
            self.put("redo")

    def more(self):
        nodes = self.names(*NODES)
        one, other, third = [self.one_of(nodes) for _ in range(3)]
        name = f"m{len(self.calls)}" if self.dice.random() < 0.9 else self.any_name()
        self.put("more", self.dice.choice((
            f"product {name} {self.dice.choice((0, 5, 60, 86401))}",
            f"apart {name} {self.one_of(self.names('product'))} {self.one_of(self.names('product'))}",
            f"apart {name} {self.one_of(self.names('product'))} {self.one_of(self.names('product'))}",
            f"vat {name} {self.dice.choice((0, 10, 20))}", f"out {name}", f"drain {name}", f"tee {name}",
            f"pipe {name} {one} {other} {self.dice.choice((0, 2, 4))} {self.dice.choice(('warm', 'cold', 'hot'))}",
            f"pipe {name} {one} {other} {self.dice.choice((0, 2, 4))} cold",
            f"valve {name} {one} {other}", f"three {name} {one} {other} {third}", "x" * 201)))

    def replant(self):
        text = bytes(self.model.show()[1:]).decode()
        self.put("plant", self.dice.choice((self.plant(), text, text, text + "what\n")))

    def want(self):
        word = self.dice.choice(("joined", "parted", "at"))
        if word == "at":
            return f"at {self.one_of(self.names(*VALVES))} {self.dice.randint(0, 1)}\n"
        return f"{word} {self.one_of(self.names(*NODES))} {self.one_of(self.names(*NODES))}\n"

    def search(self):
        if self.searches == 8:
            return
        self.searches += 1
        name = self.dice.choice(("plan", "plan", "reach") if self.lifted_asked else ("plan", "lifted", "reach"))
        self.lifted_asked = self.lifted_asked or name == "lifted"
        if name == "reach":
            self.put(name)
        else:
            self.put(name, "then\n".join(self.want() * self.dice.randint(0, 2) for _ in range(self.dice.randint(1, 3))))

    def ask(self):
        name = self.dice.choice(("show", "valves", "joined", "things", "wets", "dead", "dead", "pipe", "pipe", "node",
                                 "node", "sets", "balance"))
        if name == "dead":
            one = self.one_of(self.names(*NODES))
            near = sorted(self.model.group(one, self.model.turned)) if one in self.names(*NODES) else []
            self.put(name, one, self.one_of(near, 0.8))
        elif name == "pipe":
            self.put(name, self.one_of(self.names("pipe")))
        elif name in ("joined", "things", "wets", "node"):
            self.put(name, self.one_of(self.names(*NODES)))
        else:
            self.put(name)

    def line(self):
        self.put("plant", self.plant())
        for vat in self.names("vat"):
            self.put("fill", self.dice.choice((20, 19, 15)), vat, self.one_of(self.names("product")))
        while len(self.calls) < MOST_CALLS:
            self.dice.choice((self.fill, self.flow, self.flow, self.flow, self.flow, self.clean, self.clean, self.wait,
                              self.wait, self.melt, self.turn, self.step_back, self.more, self.more, self.search,
                              self.ask, self.ask, self.ask, self.ask)
                             + (self.replant,) * (self.dice.random() < 0.2))()
        return self.calls
