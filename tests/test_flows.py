"""flow and wets: what flows, what stands against it, and what pipes want."""

import unittest

from calling import fill, flow, last, look, plant, run, things, turn, turns, valves, wets

# a and b at the tee t by valves, an out and a drain behind a three, a dead leg from t to e.
LINE = (
    "product x 100\nproduct y 0\nvat a 100\nvat b 40\ntee t\ntee e\ntee m\nout o\ndrain d\n"
    "pipe pa t m 7 cold\npipe leg t e 3 warm\npipe nil t m 0 warm\npipe far o d 11 warm\n"
    "valve va a t\nvalve vb b t\n"
)
NODES = ("a", "b", "t", "e", "m", "o", "d")
READY = [plant(LINE), fill(60, "a", "x"), turns([0, 1])]
BIG = 4294967295


class Wets(unittest.TestCase):
    def test_all_joined_pipes_that_are_not_full(self):
        self.assertEqual(last(plant(LINE), wets("t")), [0, 10, 0, 1, 2])
        self.assertEqual(last(plant(LINE), wets("e")), [0, 10, 0, 1, 2])
        self.assertEqual(last(plant(LINE), wets("d")), [0, 11, 3])
        self.assertEqual(last(plant(LINE), wets("a")), [0, 0])
        self.assertEqual(last(plant(LINE), turn("va"), wets("a")), [0, 10, 0, 1, 2])

    def test_full_pipes_want_nothing(self):
        told = run(*READY, flow(10, "a", "b"), wets("t"), wets("b"), wets("o"))
        self.assertEqual(told[3:], [[0, 0], [0, 0], [0, 0], [0, 11, 3]])

    def test_names(self):
        for name in ("", "z", "pa", "va", "x", "T"):
            with self.subTest(name=name):
                self.assertEqual(last(plant(LINE), wets(name)), [-4])


class Flows(unittest.TestCase):
    def test_what_is_over_comes_there(self):
        told = run(*READY, flow(30, "a", "b"), things("b"), flow(20, "a", "b"), flow(1, "a", "b"), things("e"))
        self.assertEqual(told[3:], [[0, 20], [0, 0], [0, 20], [-8], [0, 0]])

    def test_pipes_that_take_all(self):
        told = run(*READY, flow(10, "a", "b"), turns([0, 1]), things("b"), things("a"), things("t"),
                   fill(40, "b", "y"))
        self.assertEqual(told[3:], [[0, 0], [0], [0], [0, 0], [0, 0], [0]])

    def test_a_vat_that_is_emptied(self):
        told = run(*READY, flow(50, "a", "b"), flow(10, "a", "b"), flow(1, "a", "b"), flow(40, "b", "a"),
                   flow(10, "a", "b"), turns([0, 1]), things("a"), fill(70, "a", "x"), fill(1, "a", "x"))
        self.assertEqual(told[3:], [[0, 40], [-8], [-8], [0, 40], [0, 10], [0], [0, 0], [-8], [0]])
        told = run(plant(LINE), fill(15, "a", "x"), turns([0, 1]), flow(15, "a", "b"), flow(1, "a", "b"),
                   turns([0, 1]), things("a"), fill(1, "a", "y"))
        self.assertEqual(told[3:], [[0, 5], [-5], [0], [0], [0]])

    def test_to_an_out_and_to_a_drain(self):
        for word in ("out", "drain"):
            with self.subTest(word=word):
                text = f"product x 0\nvat a 1000000\n{word} o\npipe p a o 4 warm\n"
                told = run(plant(text), fill(1000000, "a", "x"), flow(999990, "a", "o"), flow(11, "a", "o"),
                           flow(10, "a", "o"), flow(1, "a", "o"), things("o"), wets("o"))
                self.assertEqual(told[2:], [[0, 999986], [-5], [0, 10], [-5], [0, 0], [0, 0]])

    def test_without_pipes(self):
        text = "product x 0\nvat a 9\nvat b 9\nvalve v a b\n"
        told = run(plant(text), fill(9, "a", "x"), turn("v"), flow(9, "a", "b"), flow(1, "a", "b"), flow(1, "b", "a"))
        self.assertEqual(told[3:], [[0, 9], [-5], [0, 1]])

    def test_pipes_of_no_kilos_are_full_then_too(self):
        text = "product x 0\nproduct y 0\napart n x y\nvat a 9\nout o\nvat c 9\npipe p a o 0 warm\nvalve v c o\n"
        told = run(plant(text), wets("a"), fill(1, "a", "x"), flow(1, "a", "o"), wets("a"), things("o"),
                   fill(1, "c", "y"), turn("v"))
        self.assertEqual(told[1:], [[0, 0, 0], [0], [0, 1], [0, 0], [0, 0], [0], [-9, 0]])

    def test_dead_legs_are_filled_too(self):
        told = run(*READY, flow(9, "a", "b"), flow(10, "a", "b"), things("e"), wets("e"))
        self.assertEqual(told[3:], [[-7], [0, 0], [0, 0], [0, 0]])

    def test_nothing_else_is_changed(self):
        others = ("c", "f", "g")
        text = LINE + "vat c 9\ntee f\nout g\npipe pc c f 2 warm\nvalve vc f g\n"
        start = [plant(text), fill(60, "a", "x"), turns([0, 1]), fill(9, "c", "y"), turns([2]), flow(5, "c", "g"),
                 turns([2])]
        before = run(*start, valves(), *look(others)[2:], wets("o"))[7:]
        after = run(*start, flow(20, "a", "b"), valves(), *look(others)[2:], wets("o"))[8:]
        self.assertEqual(before, after)
        told = run(*start, flow(20, "a", "b"), fill(6, "c", "y"), fill(5, "c", "y"), fill(61, "a", "x"),
                   fill(60, "a", "x"), fill(31, "b", "x"), fill(30, "b", "x"))
        self.assertEqual(told[7:], [[0, 10], [-8], [0], [-8], [0], [-8], [0]])


class Refusals(unittest.TestCase):
    def refused(self, *calls):
        """The last call's answer, when all that can be seen is the same behind it as before it."""
        self.assertEqual(run(*calls[:-1], *look(NODES))[len(calls) - 1:], run(*calls, *look(NODES))[len(calls):])
        return last(*calls)

    def test_kilos(self):
        for kilos in (0, 1000001, BIG):
            self.assertEqual(self.refused(*READY, flow(kilos, "a", "b")), [-1])
            self.assertEqual(self.refused(*READY, flow(kilos, "z", "z")), [-1])
        self.assertEqual(self.refused(*READY, flow(1000000, "a", "b")), [-5])
        self.assertEqual(self.refused(*READY, flow(1, "a", "b")), [-7])

    def test_names(self):
        for source, goal in (("z", "b"), ("a", "z"), ("x", "b"), ("a", "va"), ("", "b"), ("a", ""), ("t", "z"),
                             ("pa", "b")):
            with self.subTest(source=source, goal=goal):
                self.assertEqual(self.refused(*READY, flow(20, source, goal)), [-4])

    def test_ends(self):
        for source, goal in (("t", "b"), ("o", "b"), ("d", "b"), ("a", "t"), ("a", "a"), ("t", "t"), ("o", "d")):
            with self.subTest(source=source, goal=goal):
                self.assertEqual(self.refused(*READY, flow(20, source, goal)), [-2])

    def test_not_joined(self):
        self.assertEqual(self.refused(*READY, flow(20, "a", "o")), [-3])
        self.assertEqual(self.refused(plant(LINE), turn("va"), flow(20, "a", "b")), [-3])

    def test_another_end_joined(self):
        for word in ("vat c 9", "out c", "drain c"):
            with self.subTest(word=word):
                text = LINE + word + "\nvalve vc e c\n"
                start = [plant(text), fill(60, "a", "x"), turns([0, 1])]
                self.assertEqual(last(*start, flow(20, "a", "b")), [0, 10])
                self.assertEqual(self.refused(*start, turn("vc"), flow(20, "a", "b")), [-10])
        self.assertEqual(last(plant(LINE + "tee c\nvalve vc e c\n"), fill(60, "a", "x"), turns([0, 1, 2]),
                              flow(20, "a", "b")), [0, 10])

    def test_nothing_there(self):
        self.assertEqual(self.refused(plant(LINE), turns([0, 1]), flow(20, "a", "b")), [-5])

    def test_another_product_in_a_pipe(self):
        start = [plant(LINE), fill(20, "a", "x"), turns([0, 1]), flow(10, "a", "b"), flow(10, "a", "b"), turns([0, 1])]
        self.assertEqual(self.refused(*start, fill(50, "a", "y"), turns([0, 1]), flow(20, "a", "b")), [-6])
        self.assertEqual(self.refused(*start, fill(50, "a", "y"), turns([0, 1]), flow(99, "a", "b")), [-6])

    def test_not_so_much_there(self):
        self.assertEqual(self.refused(*READY, flow(61, "a", "b")), [-5])
        self.assertEqual(self.refused(plant(LINE), fill(5, "a", "x"), turns([0, 1]), flow(6, "a", "b")), [-5])

    def test_less_than_pipes_want(self):
        self.assertEqual(self.refused(*READY, flow(9, "a", "b")), [-7])
        self.assertEqual(self.refused(*READY, fill(1, "b", "y"), flow(9, "a", "b")), [-7])

    def test_another_product_in_the_goal(self):
        self.assertEqual(self.refused(*READY, fill(1, "b", "y"), flow(20, "a", "b")), [-6])
        self.assertEqual(self.refused(*READY, fill(1, "b", "y"), flow(10, "a", "b")), [-6])
        self.assertEqual(self.refused(*READY, fill(1, "b", "y"), flow(60, "a", "b")), [-6])

    def test_no_room_for_what_is_over(self):
        self.assertEqual(self.refused(*READY, flow(51, "a", "b")), [-8])
        self.assertEqual(last(*READY, flow(50, "a", "b")), [0, 40])
        self.assertEqual(self.refused(*READY, fill(1, "b", "x"), flow(50, "a", "b")), [-8])

    def test_order(self):
        crowd = [plant(LINE + "vat c 9\nvalve vc t c\n"), turns([2])]
        self.assertEqual(last(*crowd, flow(20, "t", "z")), [-4])
        self.assertEqual(last(*crowd, flow(20, "a", "t")), [-2])
        self.assertEqual(last(*crowd, flow(20, "a", "b")), [-3])
        self.assertEqual(last(*crowd, turns([0, 1]), flow(20, "a", "b")), [-10])
        self.assertEqual(last(*crowd, turns([0, 1, 2]), flow(20, "a", "b")), [-5])
        stale = [plant(LINE), fill(10, "a", "x"), turns([0, 1]), flow(10, "a", "b"), turns([0, 1]), turns([0, 1])]
        self.assertEqual(last(*stale, flow(1, "a", "b")), [-5])
        self.assertEqual(last(*stale, fill(1, "a", "y"), flow(2, "a", "b")), [-6])


if __name__ == "__main__":
    unittest.main()
