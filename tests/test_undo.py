"""undo and redo: what is a change, how many are kept, and that all comes back."""

import unittest

from calling import balance, dead, drain, fill, flow, joined, last, lifted, melt, more, node, pipe, plan, plant, reach
from calling import redo, run, seen, sets, show, things, turn, turns, undo, valves, wait, wash, wets

LINE = (
    "product x 10\nproduct y 0\napart n x y\nvat a 90\nvat b 90\ndrain d\ntee s\ntee t\n"
    "pipe p s t 4 cold\npipe q t d 3 warm\nvalve va a s\nvalve vb b s\n"
)
NODES = ("a", "b", "d", "s", "t", "c")
PIPES = ("p", "q", "w")
START = [plant(LINE), fill(50, "a", "x"), fill(20, "b", "y"), turn("va")]
FULL = START + [flow(30, "a", "d"), turn("va")]
# Behind each of these lines of calls the last call is a change.
CHANGES = {
    "plant": START + [plant("tee c\n")],
    "the same plant": START + [plant(LINE)],
    "fill": START + [fill(1, "a", "x")],
    "turn": START + [turn("va")],
    "turns": START + [turns([0, 1])],
    "flow": START + [flow(30, "a", "d")],
    "drain": FULL + [drain("d")],
    "wash": FULL + [drain("d"), wash("d")],
    "wait": START + [wait(1)],
    "wait till it has set": FULL + [wait(10)],
    "melt": FULL + [wait(10), melt("p")],
    "more": START + [more("tee c")],
    "more pipes": FULL + [more("pipe w t s 1 warm")],
    "more products": FULL + [more("product z 4")],
    "more valves": FULL + [more("three w t s d")],
}
REFUSED = [
    plant("what\n"), plant(LINE + "tee a\n"), plant([97] * 8193), fill(0, "a", "x"), fill(1, "zz", "x"),
    fill(1, "s", "x"), fill(1, "a", "y"), fill(90, "a", "x"), turn("zz"), turn("vb"), turns([7]), turns([0] * 41),
    turns([1]), flow(0, "a", "d"), flow(1, "zz", "d"), flow(1, "s", "d"), flow(1, "a", "b"), drain("zz"), drain("s"),
    wash("zz"), wash("s"), wait(1000000001), melt("zz"), melt("p"), more("what"), more("tee a"), more([97] * 201),
    dead("zz", "a"), dead("a", "t"), pipe("zz"), node("zz"), node("s"), plan("what\n"), plan("at vb 1\n"),
    joined("zz"), things("zz"), wets("zz"),
]
ASKED = [
    show(), valves(), joined("a"), things("a"), plan("at va 1\n"), lifted("at vb 1\n"), reach(), wets("s"),
    dead("s", "t"), pipe("p"), node("a"), sets(), balance(),
]


class Undoing(unittest.TestCase):
    def test_all_is_as_it_was_before_each_sort_of_change(self):
        for name, calls in CHANGES.items():
            with self.subTest(name=name):
                before = seen(calls[:-1], NODES, PIPES)
                behind = seen(calls, NODES, PIPES)
                self.assertNotEqual(before, behind)
                self.assertEqual(last(*calls, undo()), [0, len(calls) - 1])
                self.assertEqual(seen(calls + [undo()], NODES, PIPES), before)
                self.assertEqual(last(*calls, undo(), redo()), [0, 0])
                self.assertEqual(seen(calls + [undo(), redo()], NODES, PIPES), behind)

    def test_one_behind_another(self):
        calls = FULL + [drain("d"), wash("d"), wait(3), more("tee c"), plant("tee c\n"), more("tee e")]
        moments = [seen(calls[:count], NODES, PIPES) for count in range(len(calls) + 1)]
        for back in range(1, len(calls) + 1):
            self.assertEqual(last(*calls, *[undo()] * back), [0, len(calls) - back])
            self.assertEqual(seen(calls + [undo()] * back, NODES, PIPES), moments[len(calls) - back])
            again = calls + [undo()] * len(calls) + [redo()] * back
            self.assertEqual(last(*again), [0, len(calls) - back])
            self.assertEqual(seen(again, NODES, PIPES), moments[back])

    def test_none(self):
        self.assertEqual(run(undo(), redo(), valves(), undo()), [[-3], [-3], [0], [-3]])
        self.assertEqual(run(turn("va"), undo())[1], [-3])
        self.assertEqual(run(wait(4), undo(), undo(), redo(), redo(), wait(0)),
                         [[0, 4], [0, 0], [-3], [0, 0], [-3], [0, 4]])

    def test_nothing_to_do_again_behind_a_change(self):
        self.assertEqual(run(wait(4), redo()), [[0, 4], [-3]])

    def test_the_clock_comes_back(self):
        told = run(*FULL, wait(10), pipe("p"), undo(), wait(0), pipe("p"), sets(), wait(9), pipe("p"))
        self.assertEqual(told[6:], [[0, 10], [0, 3, 0], [0, 6], [0, 0], [0, 2, 0, 0], [0, 0, 10], [0, 9], [0, 2, 0, 0]])

    def test_to_and_fro(self):
        told = run(wait(1), wait(1), wait(1), undo(), undo(), redo(), undo(), undo(), redo(), redo(), redo(), redo(),
                   wait(0))
        self.assertEqual(told[3:], [[0, 2], [0, 1], [0, 1], [0, 1], [0, 0], [0, 2], [0, 1], [0, 0], [-3], [0, 3]])

    def test_plans_are_those_of_the_moment(self):
        text = "product x 0\nproduct y 0\nvat a 9\nvat b 9\nvalve v a b\n"
        start = [plant(text), fill(1, "a", "x"), fill(1, "b", "y")]
        told = run(*start, more("apart n x y"), plan("at v 1\n"), undo(), plan("at v 1\n"), redo(), plan("at v 1\n"))
        self.assertEqual(told[3:], [[0], [-7], [0, 3], [0, 0], [0, 0], [-7]])


class Kept(unittest.TestCase):
    def test_sixteen_and_no_more(self):
        for count in (15, 16, 17, 18, 30):
            with self.subTest(count=count):
                kept = min(count, 16)
                told = run(*[wait(1)] * count, *[undo()] * (kept + 1), wait(0))
                self.assertEqual(told[count:], [[0, left] for left in range(kept - 1, -1, -1)]
                                 + [[-3], [0, count - kept]])

    def test_all_sixteen_are_done_again(self):
        told = run(*[wait(1)] * 20, *[undo()] * 16, *[redo()] * 17, wait(0), undo(), wait(0))
        self.assertEqual(told[36:], [[0, left] for left in range(15, -1, -1)] + [[-3], [0, 20], [0, 15], [0, 19]])

    def test_sixteen_when_some_were_undone(self):
        told = run(*[wait(1)] * 18, undo(), undo(), undo(), *[wait(2)] * 5, *[undo()] * 17, wait(0))
        self.assertEqual(told[26:], [[0, left] for left in range(15, -1, -1)] + [[-3], [0, 4]])

    def test_a_plant_is_one_of_them(self):
        told = run(*[wait(1)] * 10, plant(LINE), *[turn("va")] * 15, *[undo()] * 17, show())
        self.assertEqual(told[26:], [[0, left] for left in range(15, -1, -1)] + [[-3], [0]])
        told = run(*[wait(1)] * 10, plant(LINE), *[turn("va")] * 16, *[undo()] * 17, valves())
        self.assertEqual(told[27:], [[0, left] for left in range(15, -1, -1)] + [[-3], [0, 0, 0]])


class Forgotten(unittest.TestCase):
    def test_a_change_forgets_what_was_undone(self):
        for name, calls in CHANGES.items():
            with self.subTest(name=name):
                undone = [wait(5), undo()]
                self.assertEqual(last(*calls[:-1], *undone, redo()), [0, 0])
                self.assertEqual(last(*calls[:-1], *undone, calls[-1], redo()), [-3])

    def test_only_what_was_undone(self):
        told = run(wait(1), wait(2), wait(4), undo(), undo(), wait(8), redo(), undo(), wait(0), undo(), wait(0), redo(),
                   redo(), redo(), wait(0))
        self.assertEqual(told[3:], [[0, 2], [0, 1], [0, 9], [-3], [0, 1], [0, 1], [0, 0], [0, 0], [0, 1], [0, 0], [-3],
                                    [0, 9]])


class NoChange(unittest.TestCase):
    def check(self, calls, idle, count):
        """Behind these calls, of which so many are changes, the call is none: undo goes back behind it."""
        with self.subTest(idle=idle):
            self.assertEqual(seen(calls, NODES, PIPES), seen(calls + [idle], NODES, PIPES))
            self.assertEqual(last(*calls, idle, undo()), [0, count - 1])
            self.assertEqual(seen(calls + [idle, undo()], NODES, PIPES), seen(calls[:-1], NODES, PIPES))
            self.assertEqual(last(*calls, wait(5), undo(), idle, redo()), [0, 0])
            self.assertEqual(run(*calls, wait(5), undo(), idle, redo(), wait(0))[-1],
                             run(*calls, wait(5), wait(0))[-1])

    def test_a_call_that_leaves_all_as_it_was(self):
        self.check(FULL, turns([]), 6)
        self.check(FULL, turns([0, 0]), 6)
        self.check(FULL, wait(0), 6)
        self.check(FULL + [drain("d")], drain("d"), 7)
        self.check(FULL + [drain("d"), wash("d")], wash("d"), 8)
        self.check(FULL + [drain("d"), wash("d")], drain("d"), 8)
        self.check(START[:3], turns([0, 0, 1, 1]), 3)

    def test_turns_that_come_back_by_another_way(self):
        text = "tee a\ntee b\nvalve v a b\nvalve w a b\nvalve u a b\n"
        self.check([plant(text), turn("w")], turns([0, 1, 2, 0, 2, 1]), 2)
        self.check([plant(text), turn("w")], turns([1] * 40), 2)
        self.assertEqual(last(plant(text), turns([1] * 39), undo()), [0, 1])

    def test_the_same_plant_at_its_beginning(self):
        self.check([wait(1), plant(LINE)], plant(LINE), 2)
        self.assertEqual(run(plant([]), undo()), [[0], [-3]])
        self.assertEqual(run(plant(LINE), turn("va"), turn("va"), plant(LINE), undo())[4], [0, 2])

    def test_the_same_plant_otherwise_than_at_its_beginning(self):
        self.assertEqual(run(plant(LINE), wait(1), plant(LINE), undo(), wait(0))[3:], [[0, 2], [0, 1]])
        self.assertEqual(run(plant(LINE), turn("va"), plant(LINE), undo(), valves())[3:], [[0, 2], [0, 1, 0]])
        self.assertEqual(run(plant(LINE), fill(1, "a", "x"), plant(LINE), undo(), node("a"))[3:], [[0, 2], [0, 0, 1]])

    def test_the_same_plant_when_only_what_came_is_otherwise(self):
        text = "product x 0\nvat a 9\nout o\nvalve v a o\n"
        told = run(plant(text), fill(9, "a", "x"), turn("v"), flow(9, "a", "o"), turn("v"), plant(text), undo(),
                   node("o"), balance())
        self.assertEqual(told[6:], [[0, 5], [0, 9], [0, 9, 0, 0, 9, 0]])

    def test_a_plant_with_its_lines_in_another_order(self):
        self.assertEqual(run(plant("tee a\ntee b\n"), plant("tee b\ntee a\n"), undo())[2], [0, 1])

    def test_a_drain_of_pipes_without_kilos_is_one(self):
        text = "product x 0\nvat a 9\ndrain d\ntee s\npipe p s d 0 warm\nvalve v a s\n"
        start = [plant(text), fill(9, "a", "x"), turn("v"), flow(9, "a", "d"), turn("v"), drain("d")]
        self.assertEqual(run(*start, undo(), pipe("p"))[5:], [[0, 0], [0, 5], [0, 2, 0, 0]])

    def test_a_refusal_is_none(self):
        for call in REFUSED:
            self.assertLess(last(*FULL, call)[0], 0, call[:20])
            self.check(FULL, call, 6)

    def test_a_wash_that_is_refused_is_none(self):
        self.check(FULL, wash("d"), 6)
        self.check(FULL + [turn("va")], drain("d"), 7)

    def test_asking_is_none(self):
        for call in ASKED:
            self.assertGreaterEqual(last(*FULL, call)[0], -8)
            self.check(FULL, call, 6)

    def test_undo_and_redo_are_none(self):
        told = run(wait(1), wait(1), undo(), redo(), undo(), wait(0), redo(), undo(), undo(), undo())
        self.assertEqual(told[2:], [[0, 1], [0, 0], [0, 1], [0, 1], [0, 0], [0, 1], [0, 0], [-3]])


if __name__ == "__main__":
    unittest.main()
