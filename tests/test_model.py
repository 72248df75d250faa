"""Many lines of calls, made by a fixed seed, hold the program against the model."""

import random
import unittest

import calling
from mixing import Mixer
from model import Model


class Maker:
    """Makes plants and calls. The seed is fixed, so that each run makes the same."""

    def __init__(self, seed):
        self.dice = random.Random(seed)

    def plant(self):
        """Vats, outs and drains hang on tees by valves, mostly, and pipes lie between tees, mostly."""
        dice = self.dice
        products = [f"p{k}" for k in range(dice.randint(2, 4))]
        lines = [f"product {name} {dice.choice((0, 60, 86400))}" for name in products]
        pairs = [(a, b) for k, a in enumerate(products) for b in products[:k]]
        dice.shuffle(pairs)
        lines += [f"apart a{k} {a} {b}" for k, (a, b) in enumerate(pairs[:dice.randint(0, 6)])]
        self.vats = [f"n{k}" for k in range(dice.randint(2, 4))]
        self.ends = self.vats + [f"e{k}" for k in range(dice.randint(0, 2))]
        self.tees = [f"t{k}" for k in range(dice.randint(2, 4))]
        self.nodes = self.ends + self.tees
        lines += [f"vat {name} {dice.choice((5, 20, 100))}" for name in self.vats]
        lines += [f"{dice.choice(('out', 'drain'))} {name}" for name in self.ends[len(self.vats):]]
        lines += [f"tee {name}" for name in self.tees]
        for k in range(dice.randint(0, 4)):
            one, other = dice.sample(self.tees if dice.random() < 0.8 else self.nodes, 2)
            lines.append(f"pipe l{k} {one} {other} {dice.choice((0, 1, 3))} {dice.choice(('warm', 'cold'))}")
        self.valves = [f"v{k}" for k in range(dice.randint(3, 6))]
        lines += [self.valve(name) for name in self.valves]
        self.products = products
        self.names = products + self.nodes + self.valves + ["a0", "l0", "zz", ""]
        return "".join(line + "\n" for line in lines)

    def valve(self, name):
        end, tee = self.dice.choice(self.ends), self.dice.choice(self.tees)
        rest = [node for node in self.nodes if node not in (end, tee)]
        if self.dice.random() < 0.3:
            three = [end, tee, self.dice.choice(rest)]
            self.dice.shuffle(three)
            return " ".join(["three", name] + three)
        return f"valve {name} {end} {tee}"

    def spoilt(self, text):
        """The text with something wrong in it, mostly."""
        lines = text.split("\n")
        place = self.dice.randrange(len(lines))
        way = self.dice.randrange(6)
        if way == 0:
            return text[:-1]
        if way == 1:
            lines.insert(place, self.dice.choice(lines))
        elif way == 2:
            words = lines[place].split(" ")
            words[self.dice.randrange(len(words))] = self.dice.choice(self.names + ["0", "01", "warm"])
            lines[place] = " ".join(words)
        elif way == 3:
            lines[place] += self.dice.choice((" ", "0", "\xff", "?", "x"))
        elif way == 4:
            self.dice.shuffle(lines)
        else:
            other = self.dice.randrange(len(lines))
            lines[place], lines[other] = lines[other], lines[place]
        return "\n".join(lines)

    def name(self, names):
        return self.dice.choice(names if self.dice.random() < 0.95 else self.names)

    def want(self):
        word = self.dice.choice(("joined", "joined", "parted", "at", "at"))
        if word == "at":
            return f"at {self.name(self.valves)} {self.dice.randint(0, 1)}\n"
        one, other = self.dice.sample(self.nodes, 2)
        return f"{word} {one} {other if self.dice.random() < 0.98 else self.name(self.names)}\n"

    def wants(self):
        rows = self.dice.choice((1, 2, 3, 3, 3, 3, 4) if self.dice.random() < 0.5 else (1, 2, 3))
        most = 2 if self.dice.random() < 0.95 else 9
        text = "then\n".join("".join(self.want() for _ in range(self.dice.randint(0, most))) for _ in range(rows))
        return text if self.dice.random() < 0.95 else self.spoilt(text)

    def kilos(self):
        return self.dice.choice((1, 2, 3, 4, 5, 6, 7, 8, 10, 15, 20) * 3 + (0, 1000000, 1000001))

    def change(self):
        way = self.dice.choice(("fill", "turn", "turn", "turns", "flow", "flow", "flow", "flow"))
        if way == "fill":
            return way, self.kilos(), self.name(self.vats), self.name(self.products)
        if way == "turn":
            return way, self.name(self.valves)
        if way == "turns":
            return way, [self.dice.randrange(len(self.valves)) for _ in range(self.dice.randint(0, 4))]
        source = self.name(self.vats)
        return way, self.kilos(), source, self.name([end for end in self.ends if end != source])

    def line(self):
        text = self.plant()
        calls = [("plant", text)]
        if self.dice.random() < 0.3:
            calls.append(("plant", self.spoilt(text)))
        calls += [("fill", self.dice.choice((5, 20, 21)), vat, self.name(self.products)) for vat in self.vats]
        for _ in range(25):
            calls.append(self.change())
            ask = self.dice.choice(("things", "joined", "wets"))
            calls.append((ask, self.name(self.nodes)))
        calls += [("plan", self.wants()) for _ in range(4)]
        calls += [("lifted", self.wants()), ("reach",), ("valves",), ("show",)]
        return calls


def told_by_model(calls):
    model = Model()
    rows = [[calling.row(part) if isinstance(part, str) else part for part in call[1:]] for call in calls]
    return [model.call(call[0], *parts) for call, parts in zip(calls, rows)]


def told_by_program(calls):
    return calling.run(*[getattr(calling, call[0])(*call[1:]) for call in calls])


def told_apart(call, answer):
    """An answer's sort: the call and its refusal, or whether something is told behind the 0."""
    if answer[0] < 0:
        return call[0], answer[0]
    if call[0] == "pipe":
        return call[0], "has", answer[1]
    return call[0], "something" if any(answer[1:]) else "nothing"


# What the mixed lines must bring about, so that they are worth their while.
SORTS = {
    ("drain", "something"), ("drain", -10), ("wash", "something"), ("wash", -3), ("wash", -10), ("wait", -1),
    ("wait", "something"), ("melt", "nothing"), ("melt", -3), ("pipe", "has", 0), ("pipe", "has", 1),
    ("pipe", "has", 2), ("pipe", "has", 3), ("node", "something"), ("node", -2), ("sets", "something"),
    ("balance", "something"), ("undo", "something"), ("undo", -3), ("redo", "something"), ("redo", -3),
    ("more", "nothing"), ("more", -1), ("more", -5), ("more", -9), ("dead", "something"), ("dead", "nothing"),
    ("dead", -3), ("dead", -4), ("flow", "something"), ("flow", -6), ("flow", -7), ("flow", -8), ("flow", -10),
    ("fill", -9), ("turn", -9), ("turns", -9), ("plan", -7), ("lifted", "something"), ("lifted", -8),
}


class AgainstTheModel(unittest.TestCase):
    def check(self, seed, calls):
        """The sorts of answers, when program and model tell the same."""
        found = set()
        for call, told, wanted in zip(calls, told_by_program(calls), told_by_model(calls)):
            self.assertEqual(told, wanted, (seed, call))
            found.add(told_apart(call, told))
        return found

    def test_many_lines_of_calls(self):
        for seed in range(150):
            self.check(seed, Maker(seed).line())

    def test_many_mixed_lines_of_all_calls(self):
        found = set()
        for seed in range(150):
            found |= self.check(seed, Mixer(seed).line())
        self.assertEqual(SORTS - found, set())


if __name__ == "__main__":
    unittest.main()
