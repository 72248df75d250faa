"""node and balance: where every kilo is."""

import unittest

from calling import balance, drain, fill, flow, last, melt, more, node, plant, redo, run, seen, turn, turns, undo
from calling import wait, wash

LINE = (
    "product x 10\nproduct y 0\nproduct z 0\nvat a 1000000\nvat b 100\nout o\ndrain d\ntee t\ntee s\n"
    "pipe p t s 4 cold\nvalve va a t\nvalve vb b t\nvalve vo o s\nvalve vd d s\n"
)
NODES = ("a", "b", "o", "d", "t", "s")


class Nodes(unittest.TestCase):
    def test_a_vat(self):
        told = run(plant(LINE), node("a"), fill(7, "a", "z"), node("a"), fill(3, "a", "z"), node("a"), node("b"))
        self.assertEqual(told[1:], [[0], [0], [0, 2, 7], [0], [0, 2, 10], [0]])

    def test_a_vat_of_the_first_product(self):
        self.assertEqual(last(plant(LINE), fill(1, "b", "x"), node("b")), [0, 0, 1])

    def test_a_vat_that_was_emptied(self):
        start = [plant(LINE), fill(10, "a", "y"), turns([0, 1]), flow(10, "a", "b")]
        self.assertEqual(run(*start, node("a"), node("b"))[3:], [[0, 6], [0], [0, 1, 6]])

    def test_a_vat_to_which_nothing_came(self):
        start = [plant(LINE), fill(10, "a", "y"), turns([0, 1]), flow(4, "a", "b")]
        self.assertEqual(run(*start, node("a"), node("b"))[3:], [[0, 0], [0, 1, 6], [0]])

    def test_outs_and_drains_at_the_beginning(self):
        self.assertEqual(run(plant(LINE), node("o"), node("d"))[1:], [[0, 0, 0, 0], [0, 0, 0, 0]])
        self.assertEqual(run(plant("out o\ndrain d\n"), node("o"), node("d"))[1:], [[0], [0]])

    def test_what_came_product_by_product(self):
        start = [plant(LINE), fill(10, "a", "z"), turns([0, 3]), flow(10, "a", "d"), turns([0]), drain("d"), wash("d"),
                 turns([3]), fill(30, "b", "x"), turns([1, 2]), flow(9, "b", "o"), flow(8, "b", "o")]
        self.assertEqual(run(*start, node("d"), node("o"), node("b"))[12:], [[0, 0, 0, 10], [0, 13, 0, 0], [0, 0, 13]])
        self.assertEqual(run(*start, turns([2, 1, 3]), drain("d"), node("d"))[13:], [[0, 4], [0, 4, 0, 10]])

    def test_more_than_a_number_of_one_flow(self):
        million = [fill(1000000, "a", "y"), flow(1000000, "a", "o")]
        told = run(plant(LINE), turns([0, 2]), *(million * 3), node("o"), balance())
        self.assertEqual(told[-2:], [[0, 0, 2999996, 0], [0, 0, 0, 0, 0, 0, 3000000, 0, 4, 2999996, 0, 0, 0, 0, 0, 0]])

    def test_a_tee(self):
        self.assertEqual(run(plant(LINE), node("t"), node("s"))[1:], [[-2], [-2]])

    def test_names(self):
        for name in ("", "zz", "p", "va", "x", "A", "a\n", "a" * 9000):
            with self.subTest(name=name):
                self.assertEqual(last(plant(LINE), node(name)), [-4])
        self.assertEqual(last(node("a")), [-4])


class Balance(unittest.TestCase):
    def told(self, *calls):
        """Of each product what is told, checked for being all that was brought."""
        told = last(*calls, balance())
        self.assertEqual(told[0], 0)
        rows = [tuple(told[place:place + 5]) for place in range(1, len(told), 5)]
        for row in rows:
            self.assertEqual(len(row), 5)
            self.assertEqual(row[0], sum(row[1:]))
        return rows

    nothing = (0, 0, 0, 0, 0)

    def test_of_each_product_in_order(self):
        self.assertEqual(self.told(plant(LINE)), [self.nothing] * 3)
        self.assertEqual(self.told(plant(LINE), fill(7, "b", "z"), fill(5, "a", "x"), fill(6, "a", "x")),
                         [(11, 11, 0, 0, 0), self.nothing, (7, 7, 0, 0, 0)])

    def test_without_products(self):
        self.assertEqual(run(balance(), plant("vat a 1\nout o\n"), balance()), [[0], [0], [0]])

    def test_what_is_refused_was_not_brought(self):
        told = self.told(plant(LINE), fill(7, "b", "z"), fill(94, "b", "z"), fill(1, "b", "x"), fill(1, "t", "z"),
                         fill(0, "b", "z"))
        self.assertEqual(told, [self.nothing, self.nothing, (7, 7, 0, 0, 0)])

    def test_in_all_five_places(self):
        calls = [plant(LINE), fill(30, "a", "x"), turns([0, 2]), flow(10, "a", "o")]
        self.assertEqual(self.told(*calls)[0], (30, 20, 4, 6, 0))
        self.assertEqual(self.told(*calls, wait(10))[0], (30, 20, 4, 6, 0))
        self.assertEqual(self.told(*calls, wait(10), melt("p"))[0], (30, 20, 4, 6, 0))
        calls += [turns([2, 3]), flow(5, "a", "d")]
        self.assertEqual(self.told(*calls)[0], (30, 15, 4, 6, 5))
        calls += [turns([0]), drain("d")]
        self.assertEqual(self.told(*calls)[0], (30, 15, 0, 6, 9))
        calls += [wash("d"), fill(1, "a", "x"), turns([1, 0, 3]), flow(4, "a", "b")]
        self.assertEqual(self.told(*calls)[0], (31, 12, 4, 6, 9))
        calls += [flow(11, "a", "b"), more("product w 0"), more("vat c 9"), more("out u")]
        self.assertEqual(self.told(*calls)[0], (31, 12, 4, 6, 9))
        self.assertEqual(self.told(*calls)[3], self.nothing)

    def test_undone_and_done_again(self):
        calls = [plant(LINE), fill(30, "a", "x"), turns([0, 2]), flow(10, "a", "o")]
        self.assertEqual(self.told(*calls, undo())[0], (30, 30, 0, 0, 0))
        self.assertEqual(self.told(*calls, undo(), undo(), undo())[0], self.nothing)
        self.assertEqual(self.told(*calls, undo(), undo(), undo(), redo(), redo(), redo())[0], (30, 20, 4, 6, 0))

    def test_a_plant_begins_with_nothing_brought(self):
        calls = [plant(LINE), fill(30, "a", "x"), turns([0, 2]), flow(10, "a", "o")]
        self.assertEqual(self.told(*calls, plant(LINE)), [self.nothing] * 3)

    def test_two_products_at_once(self):
        text = LINE + "vat c 50\nvat e 50\npipe q c e 7 warm\npipe r c e 0 warm\nout u\n"
        calls = [plant(text), fill(30, "a", "x"), fill(40, "c", "z"), turns([0, 2]), flow(10, "a", "o"),
                 flow(10, "c", "e")]
        self.assertEqual(self.told(*calls), [(30, 20, 4, 6, 0), self.nothing, (40, 33, 7, 0, 0)])

    def test_asking_changes_nothing(self):
        calls = [plant(LINE), fill(30, "a", "x"), turns([0, 2]), flow(10, "a", "o"), turn("va")]
        asked = [balance(), node("a"), node("o"), node("t"), node("zz")]
        self.assertEqual(seen(calls, NODES, ("p",)), seen(calls + asked, NODES, ("p",)))


if __name__ == "__main__":
    unittest.main()
