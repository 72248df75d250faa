"""drain and wash: pipes emptied into a drain, and films gone."""

import unittest

from calling import balance, drain, fill, flow, last, node, pipe, plan, plant, run, seen, things, turn, turns, undo
from calling import wait, wash, wets

# All pipes lie between s, t and the drain d; vats, an out and another drain are behind valves at s.
LINE = (
    "product x 10\nproduct y 0\napart n x y\nvat a 50\nvat b 50\nout o\ndrain d\ndrain e\ntee s\ntee t\ntee far\n"
    "pipe p s t 4 cold\npipe q t d 3 warm\npipe nil t s 0 warm\npipe w far b 9 warm\n"
    "valve va a s\nvalve vb b s\nvalve vo o s\nvalve ve e s\n"
)
NODES = ("a", "b", "o", "d", "e", "s", "t", "far")
PIPES = ("p", "q", "nil", "w")
FLOWED = [plant(LINE), fill(20, "a", "x"), turn("va"), flow(10, "a", "d")]
FULL = FLOWED + [turn("va")]
FILMS = FULL + [drain("d")]


def crossed():
    """Two pipes of one drain, the one full of z, the other of x; 6 kilos of z and 15 of x came to the drain."""
    text = ("product x 0\nproduct y 0\nproduct z 0\nvat a 50\nvat b 50\ndrain d\ntee s\ntee t\ntee u\ntee w\n"
            "pipe p s t 4 warm\npipe q u w 5 warm\nvalve va a s\nvalve vt t d\nvalve vb b u\nvalve vw w d\n")
    return [plant(text), fill(50, "a", "z"), fill(50, "b", "x"), turns([0, 1]), flow(10, "a", "d"), turns([0, 1]),
            turns([2, 3]), flow(20, "b", "d"), turns([2, 1])]


class Draining(unittest.TestCase):
    def test_full_pipes_are_emptied_and_films_stay(self):
        told = run(*FULL, drain("d"), *map(pipe, PIPES), node("d"), balance())
        film = [0, 1, 0]
        self.assertEqual(told[5:], [[0, 7], film, film, film, [0, 0], [0, 10, 0], [0, 20, 10, 0, 0, 10, 0, 0, 0, 0, 0]])

    def test_what_is_empty_stays_empty(self):
        told = run(plant(LINE), drain("d"), *map(pipe, PIPES), node("d"))
        self.assertEqual(told[1:], [[0, 0]] + [[0, 0]] * 4 + [[0, 0, 0]])

    def test_films_stay_films(self):
        told = run(*FILMS, drain("d"), *map(pipe, PIPES), node("d"))
        film = [0, 1, 0]
        self.assertEqual(told[6:], [[0, 0], film, film, film, [0, 0], [0, 10, 0]])

    def test_pipes_that_are_not_joined_stay_full(self):
        text = LINE + "valve vs far s\n"
        start = [plant(text), fill(20, "b", "y"), turns([4, 1]), flow(20, "b", "d"), turns([1, 4])]
        told = run(*start, drain("d"), pipe("w"), pipe("q"))
        self.assertEqual(told[3:], [[0, 4], [0], [0, 7], [0, 2, 1, 0], [0, 1, 1]])

    def test_what_has_set_stays(self):
        told = run(*FULL, wait(10), drain("d"), *map(pipe, PIPES), node("d"))
        self.assertEqual(told[6:], [[0, 3], [0, 3, 0], [0, 1, 0], [0, 1, 0], [0, 0], [0, 6, 0]])

    def test_each_product_comes_by_itself(self):
        told = run(*crossed(), drain("d"), node("d"), pipe("p"), pipe("q"))
        self.assertEqual(told[9:], [[0, 9], [0, 20, 0, 10], [0, 1, 2], [0, 1, 0]])
        told = run(*crossed(), turn("vt"), drain("d"), node("d"), pipe("p"), pipe("q"))
        self.assertEqual(told[9:], [[0], [0, 5], [0, 20, 0, 6], [0, 2, 2, 0], [0, 1, 0]])

    def test_a_drain_alone(self):
        self.assertEqual(last(plant("drain d\n"), drain("d")), [0, 0])

    def test_pipes_can_be_filled_again(self):
        told = run(*FILMS, wets("t"), turn("va"), flow(6, "a", "d"), flow(7, "a", "d"), wets("t"), node("a"))
        self.assertEqual(told[6:], [[0, 7, 0, 1, 2], [0], [-7], [0, 0], [0, 0], [0, 0, 3]])


class Washing(unittest.TestCase):
    def test_films_are_gone(self):
        told = run(*FILMS, wash("d"), *map(pipe, PIPES), wash("d"), node("d"), things("t"))
        self.assertEqual(told[6:], [[0, 3]] + [[0, 0]] * 4 + [[0, 0], [0, 10, 0], [0]])

    def test_nothing_to_wash(self):
        self.assertEqual(run(plant(LINE), wash("d"), wash("e"))[1:], [[0, 0], [0, 0]])
        self.assertEqual(last(plant("drain d\n"), wash("d")), [0, 0])

    def test_a_pipe_is_full(self):
        self.assertEqual(last(*FULL, wash("d")), [-3])
        text = LINE.replace("pipe p s t 4", "pipe p s t 0").replace("pipe q t d 3", "pipe q t d 0")
        self.assertEqual(last(plant(text), *FULL[1:], wash("d")), [-3])

    def test_a_film_beside_a_full_pipe_stays(self):
        text = ("product x 0\nvat a 9\ndrain d\ntee s\ntee t\ntee u\npipe p s d 1 warm\npipe q t u 1 warm\n"
                "valve va a t\nvalve vu u d\n")
        start = [plant(text), fill(9, "a", "x"), turns([0, 1]), flow(5, "a", "d"), turns([0, 1]), drain("d"),
                 turn("vu")]
        told = run(*start, wash("d"), pipe("p"), pipe("q"), drain("d"), wash("d"), pipe("p"), pipe("q"))
        self.assertEqual(told[5:], [[0, 1], [0], [-3], [0, 1, 0], [0, 2, 0, 0], [0, 1], [0, 2], [0, 0], [0, 0]])

    def test_what_has_set_does_not_stand_against_it_and_stays(self):
        told = run(*FULL, wait(10), wash("d"), drain("d"), wash("d"), *map(pipe, PIPES), things("t"))
        self.assertEqual(told[6:], [[-3], [0, 3], [0, 2], [0, 3, 0], [0, 0], [0, 0], [0, 0], [0, 0]])

    def test_films_of_several_products(self):
        told = run(*crossed(), drain("d"), wash("d"), pipe("p"), pipe("q"))
        self.assertEqual(told[10:], [[0, 2], [0, 0], [0, 0]])

    def test_a_washed_pipe_may_have_another_product(self):
        told = run(*FILMS, fill(20, "b", "y"), turn("vb"), plan("joined b d\n"), things("s"), wash("d"), turn("vb"))
        self.assertEqual(told[6:], [[0], [-9, 0], [-7], [0, 0], [0, 3], [0]])
        told = run(*FILMS, wash("d"), fill(20, "b", "y"), turn("vb"), flow(19, "b", "d"), node("d"))
        self.assertEqual(told[6:], [[0, 3], [0], [0], [0, 3], [0, 10, 3]])


class Films(unittest.TestCase):
    text = LINE.replace("apart n x y\n", "")

    def test_another_products_film_stands_against_a_flow(self):
        start = [plant(self.text)] + FILMS[1:] + [fill(30, "b", "y"), turn("vb")]
        self.assertEqual(last(*start, flow(20, "b", "d")), [-6])
        self.assertEqual(last(*start, flow(99, "b", "d")), [-6])
        self.assertEqual(last(*start, turn("vb"), wash("d"), turn("vb"), flow(20, "b", "d")), [0, 4])

    def test_the_same_products_does_not(self):
        self.assertEqual(last(*FILMS, turn("va"), flow(8, "a", "d")), [0, 1])

    def test_a_film_is_at_both_ends(self):
        told = run(*FILMS, things("s"), things("d"), turn("ve"), things("e"))
        self.assertEqual(told[6:], [[0, 0], [0, 0], [0], [0, 0]])


class Refusals(unittest.TestCase):
    def refused(self, *calls):
        self.assertEqual(seen(calls[:-1], NODES, PIPES), seen(calls, NODES, PIPES))
        return last(*calls)

    def test_names(self):
        for name in ("", "zz", "p", "va", "x", "n", "D", "d ", "d\n", "d" * 9000):
            for call in (drain, wash):
                with self.subTest(name=name):
                    self.assertEqual(last(*FULL, call(name)), [-4])
        self.assertEqual(run(drain("d"), wash("d")), [[-4], [-4]])

    def test_no_drain(self):
        for name in ("a", "b", "o", "s", "t"):
            with self.subTest(name=name):
                self.assertEqual(self.refused(*FULL, drain(name)), [-2])
                self.assertEqual(self.refused(*FULL, wash(name)), [-2])
                self.assertEqual(last(*FLOWED, drain(name)), [-2])
                self.assertEqual(last(*FLOWED, wash(name)), [-2])

    def test_another_end_joined(self):
        for valve in ("va", "vb", "vo", "ve"):
            with self.subTest(valve=valve):
                start = FULL + [turn(valve)]
                self.assertEqual(self.refused(*start, drain("d")), [-10])
                self.assertEqual(self.refused(*start, wash("d")), [-10])
                self.assertEqual(self.refused(*FILMS, turn(valve), wash("d")), [-10])
                self.assertEqual(self.refused(plant(LINE), turn(valve), drain("d")), [-10])

    def test_a_tee_joined_does_not_matter(self):
        text = LINE + "tee g\nvalve vg g s\n"
        self.assertEqual(run(plant(text), *FULL[1:], turn("vg"), drain("d"), wash("d"))[6:], [[0, 7], [0, 3]])

    def test_a_full_pipe_comes_last(self):
        self.assertEqual(self.refused(*FULL, wash("d")), [-3])
        self.assertEqual(self.refused(*FULL, wash("s")), [-2])
        self.assertEqual(self.refused(*FLOWED, wash("d")), [-10])

    def test_a_set_pipe_keeps_another_end_away(self):
        start = [plant(LINE), fill(20, "a", "x"), turn("va"), flow(10, "a", "d"), wait(10)]
        self.assertEqual(last(*start, drain("d")), [-10])
        text = LINE.replace("pipe nil t s 0 warm", "pipe nil t s 0 cold")
        told = run(plant(text), *start[1:], drain("d"), pipe("p"), pipe("q"), undo())
        self.assertEqual(told[5:], [[0, 3], [0, 3, 0], [0, 1, 0], [0, 5]])


if __name__ == "__main__":
    unittest.main()
