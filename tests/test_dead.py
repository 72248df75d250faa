"""dead: the pipes between two joined nodes through which nothing would come from the one to the other."""

import unittest

from calling import dead, fill, flow, last, plant, run, seen, turn, wait

# A way from a to b by p0, p1, p2; a leg p3, p4 at t1; two pipes side by side, p5 and p6, at t2; p7 behind a valve.
LINE = (
    "product x 5\nvat a 99\nvat b 99\ntee t1\ntee t2\ntee t3\ntee t4\ntee t5\ntee t6\ntee t7\n"
    "pipe p0 a t1 1 warm\npipe p1 t1 t2 1 warm\npipe p2 t2 b 1 warm\npipe p3 t1 t3 1 warm\npipe p4 t4 t3 1 warm\n"
    "pipe p5 t2 t5 1 warm\npipe p6 t5 t2 1 warm\npipe p7 t6 t7 0 warm\nvalve leg t4 t6\nvalve back t4 b\n"
)
NODES = ("a", "b", "t1", "t4", "t6")
PIPES = tuple(f"p{k}" for k in range(8))


class DeadLegs(unittest.TestCase):
    def test_between_the_ends_of_a_way(self):
        self.assertEqual(last(plant(LINE), dead("a", "b")), [0, 3, 4])
        self.assertEqual(last(plant(LINE), dead("b", "a")), [0, 3, 4])

    def test_between_nodes_on_the_way(self):
        self.assertEqual(last(plant(LINE), dead("t1", "b")), [0, 0, 3, 4])
        self.assertEqual(last(plant(LINE), dead("t1", "t2")), [0, 0, 2, 3, 4])
        self.assertEqual(last(plant(LINE), dead("t4", "t1")), [0, 0, 1, 2])
        self.assertEqual(last(plant(LINE), dead("t4", "t5")), [0, 0, 2])

    def test_pipes_side_by_side_are_none(self):
        self.assertEqual(last(plant(LINE), dead("t5", "t2")), [0, 0, 1, 2, 3, 4])
        text = "tee a\ntee b\ntee c\npipe p a b 1 warm\npipe q b c 1 warm\npipe r c b 1 cold\n"
        self.assertEqual(run(plant(text), dead("a", "b"), dead("a", "c"))[1:], [[0], [0]])

    def test_what_a_valve_joins_counts(self):
        self.assertEqual(last(plant(LINE), turn("leg"), dead("a", "b")), [0, 3, 4, 7])
        self.assertEqual(last(plant(LINE), turn("leg"), dead("a", "t7")), [0, 1, 2])
        self.assertEqual(last(plant(LINE), turn("back"), dead("a", "b")), [0])
        self.assertEqual(last(plant(LINE), turn("back"), turn("leg"), dead("a", "b")), [0, 7])
        self.assertEqual(last(plant(LINE), turn("back"), dead("t1", "t2")), [0, 0])

    def test_pipes_that_are_not_joined_are_none(self):
        self.assertEqual(last(plant(LINE), dead("t6", "t7")), [0])
        text = "tee a\ntee b\ntee c\ntee d\npipe p c d 1 warm\npipe q a b 1 warm\n"
        self.assertEqual(run(plant(text), dead("a", "b"), dead("c", "d"), dead("c", "c"))[1:], [[0], [0], [0, 0]])

    def test_a_node_with_itself(self):
        self.assertEqual(last(plant(LINE), dead("a", "a")), [0, 0, 1, 2, 3, 4])
        self.assertEqual(last(plant(LINE), dead("t6", "t6")), [0, 7])
        self.assertEqual(last(plant("tee a\n"), dead("a", "a")), [0])

    def test_only_valves_between_them(self):
        text = "tee a\ntee b\ntee c\nvalve v a b\npipe p b c 1 warm\n"
        self.assertEqual(last(plant(text), turn("v"), dead("a", "b")), [0, 0])
        self.assertEqual(last(plant(text), turn("v"), dead("a", "c")), [0])

    def test_three_positions(self):
        text = "tee a\ntee b\ntee c\npipe p b c 1 warm\nthree w a b c\ntee d\npipe q c d 1 warm\n"
        told = run(plant(text), dead("a", "b"), turn("w"), dead("a", "b"))
        self.assertEqual(told[1:], [[0, 0, 1], [0], [0, 1]])

    def test_full_ones_too(self):
        told = run(plant(LINE), fill(9, "a", "x"), flow(9, "a", "b"), dead("a", "b"))
        self.assertEqual(told[3], [0, 3, 4])

    def test_what_has_set_leads_nowhere(self):
        text = LINE.replace("pipe p3 t1 t3 1 warm", "pipe p3 t1 t3 1 cold")
        start = [plant(text), fill(9, "a", "x"), flow(9, "a", "b")]
        told = run(*start, wait(4), dead("a", "b"), wait(1), dead("a", "b"), dead("t3", "t4"), dead("a", "t4"))
        self.assertEqual(told[4:], [[0, 3, 4], [0, 5], [0], [0], [-3]])
        text = LINE.replace("pipe p5 t2 t5 1 warm", "pipe p5 t2 t5 1 cold")
        told = run(plant(text), *start[1:], wait(5), dead("a", "b"))
        self.assertEqual(told[4], [0, 3, 4, 6])


class Refusals(unittest.TestCase):
    def test_not_joined(self):
        told = run(plant(LINE), dead("a", "t6"), dead("t7", "b"), turn("leg"), dead("a", "t6"))
        self.assertEqual(told[1:], [[-3], [-3], [0], [0, 1, 2, 7]])

    def test_names(self):
        for one, other in (("a", "zz"), ("zz", "a"), ("", "a"), ("a", ""), ("p0", "a"), ("a", "leg"), ("x", "b"),
                           ("t6", "zz"), ("zz", "zz"), ("a" * 9000, "a")):
            with self.subTest(one=one, other=other):
                self.assertEqual(last(plant(LINE), dead(one, other)), [-4])
        self.assertEqual(last(dead("", "")), [-4])

    def test_asking_changes_nothing(self):
        start = [plant(LINE), fill(9, "a", "x"), flow(9, "a", "b")]
        asked = [dead("a", "b"), dead("a", "t6"), dead("a", "zz"), dead("t1", "t1")]
        self.assertEqual(seen(start, NODES, PIPES), seen(start + asked, NODES, PIPES))


if __name__ == "__main__":
    unittest.main()
