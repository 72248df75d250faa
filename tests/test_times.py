"""wait, sets, melt and pipe: when pipes set, and what has set."""

import unittest

from calling import dead, drain, fill, flow, joined, last, melt, more, pipe, plan, plant, reach, run, seen, sets, things
from calling import turn, turns, valves, wait, wash, wets

# x sets behind 10 seconds, y never, z behind 25. Two pipes side by side from s to t, the one cold, the other warm.
LINE = (
    "product x 10\nproduct y 0\nproduct z 25\nvat a 100\ntee s\ntee t\nout o\n"
    "pipe p s t 4 cold\npipe q s t 3 warm\npipe r t o 2 cold\npipe nil s t 0 cold\nvalve va a s\n"
)
NODES = ("a", "s", "t", "o")
PIPES = ("p", "q", "r", "nil")
BIG = 4294967295


def running(product):
    """The plant with all its pipes full of the product since 0."""
    return [plant(LINE), fill(50, "a", product), turn("va"), flow(20, "a", "o")]


# A cold pipe alone between two sides, each with a vat behind a valve.
SIDES = (
    "product x 10\nproduct y 0\nproduct z 0\napart n y z\napart m x y\napart l x z\nvat a 9\nvat b 9\nvat c 9\n"
    "tee s\ntee t\nout o\npipe p s t 4 cold\nvalve va a s\nvalve vb b s\nvalve vc c t\nvalve vo o t\n"
)
HARD = [fill(9, "a", "x"), turns([0, 3]), flow(9, "a", "o"), turns([0, 3]), wait(10)]


class Waiting(unittest.TestCase):
    def test_the_clock_is_told(self):
        self.assertEqual(run(wait(0), wait(7), wait(0), wait(86400), wait(1)), [[0, 0], [0, 7], [0, 7], [0, 86407],
                                                                             [0, 86408]])

    def test_the_latest_clock(self):
        self.assertEqual(run(wait(1000000000), wait(0), wait(1), wait(0)),
                         [[0, 1000000000], [0, 1000000000], [-1], [0, 1000000000]])
        self.assertEqual(run(wait(1000000001), wait(BIG), wait(999999999), wait(2), wait(1)),
                         [[-1], [-1], [0, 999999999], [-1], [0, 1000000000]])

    def test_a_refused_wait_sets_nothing(self):
        told = run(*running("x"), wait(1000000001), wait(BIG), pipe("p"), wait(0))
        self.assertEqual(told[4:], [[-1], [-1], [0, 2, 0, 0], [0, 0]])

    def test_a_plant_begins_with_the_clock_at_nought(self):
        self.assertEqual(run(wait(5), plant(LINE), wait(0))[2], [0, 0])


class Setting(unittest.TestCase):
    def test_at_just_its_moment(self):
        told = run(*running("x"), wait(9), *map(pipe, PIPES), wait(1), *map(pipe, PIPES))
        full = [0, 2, 0, 0]
        self.assertEqual(told[4:], [[0, 9], full, full, full, full, [0, 10], [0, 3, 0], full, [0, 3, 0], [0, 3, 0]])

    def test_when_its_moment_is_passed_over(self):
        for seconds in (11, 10000, 1000000000):
            self.assertEqual(run(*running("x"), wait(seconds), pipe("p"), pipe("q"))[5:], [[0, 3, 0], [0, 2, 0, 0]])

    def test_each_product_has_its_seconds(self):
        told = run(*running("z"), wait(24), pipe("p"), wait(1), pipe("p"))
        self.assertEqual(told[4:], [[0, 24], [0, 2, 2, 0], [0, 25], [0, 3, 2]])

    def test_a_product_with_no_seconds_never(self):
        told = run(*running("y"), sets(), wait(1000000000), pipe("p"), sets(), joined("s"))
        self.assertEqual(told[4:], [[0], [0, 1000000000], [0, 2, 1, 0], [0], [0, 0, 1, 2, 3]])

    def test_the_longest_seconds(self):
        text = LINE.replace("product x 10", "product x 86400")
        told = run(plant(text), *running("x")[1:], wait(86399), pipe("p"), wait(1), pipe("p"))
        self.assertEqual(told[5::2], [[0, 2, 0, 0], [0, 3, 0]])

    def test_a_flow_begins_it_anew(self):
        told = run(*running("x"), wait(9), flow(1, "a", "o"), *map(pipe, PIPES), wait(9), pipe("p"), wait(1), pipe("p"))
        full = [0, 2, 0, 9]
        self.assertEqual(told[5:], [[0, 1], full, full, full, full, [0, 18], full, [0, 19], [0, 3, 0]])

    def test_turns_and_fills_do_not_begin_it_anew(self):
        told = run(*running("x"), wait(9), turn("va"), fill(1, "a", "x"), turn("va"), pipe("p"), wait(1), pipe("p"))
        self.assertEqual(told[8:], [[0, 2, 0, 0], [0, 10], [0, 3, 0]])

    def test_empty_pipes_and_films_do_not_set(self):
        text = LINE.replace("out o", "drain o")
        start = [plant(text), fill(50, "a", "x"), turn("va"), flow(20, "a", "o"), turn("va"), drain("o")]
        told = run(*start, sets(), wait(1000), pipe("p"), pipe("r"), wash("o"), wait(1000), pipe("p"), sets())
        self.assertEqual(told[6:], [[0], [0, 1000], [0, 1, 0], [0, 1, 0], [0, 4], [0, 2000], [0, 0], [0]])


class WhatHasSet(unittest.TestCase):
    start = [plant(SIDES)] + HARD

    def test_it_joins_nothing(self):
        self.assertEqual(last(plant(SIDES), *HARD[:-1], wait(9), joined("s")), [0, 3, 4])
        self.assertEqual(run(*self.start, joined("s"), joined("t"))[6:], [[0, 3], [0, 4]])
        self.assertEqual(last(*self.start, turns([0, 3]), fill(5, "a", "x"), flow(5, "a", "o")), [-3])

    def test_it_is_at_both_ends(self):
        told = run(*self.start, things("s"), things("t"), turns([0, 3]), things("a"), things("o"), things("b"))
        self.assertEqual(told[6:], [[0, 0], [0, 0], [0], [0, 0], [0, 0], [0]])

    def test_it_meets_at_both_ends(self):
        told = run(*self.start, fill(1, "b", "y"), turn("vb"), fill(1, "c", "z"), turn("vc"), turns([2]), valves())
        self.assertEqual(told[6:], [[0], [-9, 1], [0], [-9, 2], [-9, 2, 0], [0, 0, 0, 0, 0]])

    def test_plans_and_line_ups_know_of_it(self):
        told = run(*self.start, fill(1, "c", "z"), plan("joined s o\n"), plan("joined t c\n"), plan("joined t o\n"),
                   reach())
        self.assertEqual(told[7:], [[-7], [-7], [0, 3], [0, 8]])

    def test_it_wants_nothing_and_is_no_dead_leg(self):
        told = run(*self.start, wets("s"), wets("t"), dead("s", "s"), dead("t", "t"))
        self.assertEqual(told[6:], [[0, 0], [0, 0], [0], [0]])
        self.assertEqual(last(plant(SIDES), dead("s", "s")), [0, 0])

    def test_a_flow_beside_it_leaves_it(self):
        told = run(*running("x"), wait(10), flow(5, "a", "o"), pipe("p"), pipe("q"), wets("s"))
        self.assertEqual(told[5:], [[-3], [0, 3, 0], [0, 2, 0, 0], [0, 0]])
        text = SIDES + "pipe w s t 2 warm\n"
        told = run(plant(text), *HARD, fill(9, "a", "x"), turns([0, 3]), flow(9, "a", "o"), pipe("p"), pipe("w"))
        self.assertEqual(told[6:], [[0], [0], [0, 9], [0, 3, 0], [0, 2, 0, 10]])


class Sets(unittest.TestCase):
    def test_number_and_moment(self):
        told = run(plant(LINE), sets(), *running("x")[1:], sets(), wait(9), sets(), wait(1), sets())
        self.assertEqual([told[1], told[5], told[7], told[9]], [[0], [0, 0, 10, 2, 10, 3, 10],
                                                              [0, 0, 10, 2, 10, 3, 10], [0]])

    two = ("product x 10\nproduct z 25\nvat a 9\nvat b 9\nout o\nout w\n"
           "pipe p0 a o 1 cold\npipe p1 b w 1 cold\npipe p2 a o 1 cold\npipe p3 b w 1 warm\npipe p4 b w 1 cold\n")

    def test_the_soonest_first(self):
        start = [plant(self.two), fill(9, "a", "z"), fill(9, "b", "x"), flow(2, "a", "o")]
        self.assertEqual(last(*start, flow(3, "b", "w"), sets()), [0, 1, 10, 4, 10, 0, 25, 2, 25])
        self.assertEqual(last(*start, wait(14), flow(3, "b", "w"), sets()), [0, 1, 24, 4, 24, 0, 25, 2, 25])
        self.assertEqual(last(*start, wait(16), flow(3, "b", "w"), sets()), [0, 0, 25, 2, 25, 1, 26, 4, 26])

    def test_of_as_soon_the_lesser_number(self):
        start = [plant(self.two), fill(9, "a", "z"), fill(9, "b", "x"), flow(2, "a", "o"), wait(15)]
        self.assertEqual(last(*start, flow(3, "b", "w"), sets()), [0, 0, 25, 1, 25, 2, 25, 4, 25])

    def test_what_has_set_is_not_told_any_more(self):
        start = [plant(self.two), fill(9, "a", "z"), fill(9, "b", "x"), flow(2, "a", "o"), flow(3, "b", "w")]
        self.assertEqual(run(*start, wait(10), sets(), wait(15), sets())[6::2], [[0, 0, 25, 2, 25], [0]])

    def test_a_moment_beyond_the_latest_clock(self):
        told = run(plant(LINE), wait(999999995), *running("x")[1:], sets(), wait(5), pipe("p"))
        self.assertEqual(told[5:], [[0, 0, 1000000005, 2, 1000000005, 3, 1000000005], [0, 1000000000],
                                    [0, 2, 0, 999999995]])

    def test_nothing_sets_on_a_plant_without_lines(self):
        self.assertEqual(run(sets(), wait(5), sets()), [[0], [0, 5], [0]])


class Melting(unittest.TestCase):
    start = [plant(SIDES)] + HARD

    def test_it_is_full_since_now(self):
        told = run(*self.start, wait(3), melt("p"), pipe("p"), joined("s"), sets(), wait(9), pipe("p"), wait(1),
                   pipe("p"))
        self.assertEqual(told[7:], [[0], [0, 2, 0, 13], [0, 3, 4], [0, 0, 23], [0, 22], [0, 2, 0, 13], [0, 23],
                                    [0, 3, 0]])

    def test_it_is_the_same_product(self):
        told = run(*running("z"), wait(25), melt("p"), pipe("p"), sets())
        self.assertEqual(told[5:], [[0], [0, 2, 2, 25], [0, 0, 50]])

    def test_only_this_one(self):
        told = run(*running("x"), wait(10), melt("r"), *map(pipe, PIPES))
        self.assertEqual(told[5:], [[0], [0, 3, 0], [0, 2, 0, 0], [0, 2, 0, 10], [0, 3, 0]])

    def test_nothing_has_set_in_it(self):
        text = LINE.replace("out o", "drain o")
        start = [plant(text), fill(50, "a", "x"), turn("va"), flow(20, "a", "o"), turn("va")]
        self.assertEqual(last(plant(LINE), melt("p")), [-3])
        self.assertEqual(last(*start, melt("p")), [-3])
        self.assertEqual(last(*start, drain("o"), melt("p")), [-3])
        self.assertEqual(last(*start, wait(1000), melt("q")), [-3])
        self.assertEqual(run(*self.start, melt("p"), melt("p"))[6:], [[0], [-3]])

    def test_names(self):
        for name in ("", "zz", "s", "a", "va", "x", "n", "P", "p "):
            with self.subTest(name=name):
                self.assertEqual(run(*self.start, melt(name), pipe(name))[6:], [[-4], [-4]])
        self.assertEqual(run(melt("p"), pipe("p")), [[-4], [-4]])

    def test_two_would_meet_through_it(self):
        # Here x may be with y and z, but y not with z: only what has set keeps them from one another.
        text = SIDES.replace("apart m x y\napart l x z\n", "")
        start = [plant(text), *HARD, fill(1, "b", "y"), fill(1, "c", "z"), turns([1, 2])]
        calls = [*start, melt("p")]
        self.assertEqual(run(*calls)[6:], [[0], [0], [0], [-9, 0]])
        names = (("a", "b", "c", "s", "t", "o"), ("p",))
        self.assertEqual(seen(start, *names), seen(calls, *names))
        self.assertEqual(run(*start, turn("vb"), melt("p"), turn("vb"))[9:], [[0], [0], [-9, 0]])

    def test_the_first_apart_is_told(self):
        text = ("product x 10\nproduct u 0\nproduct y 0\nproduct z 0\napart n u z\napart m y z\napart l u y\n"
                + SIDES[SIDES.index("vat a"):])
        start = [plant(text), *HARD, fill(1, "b", "y"), fill(1, "c", "z"), turns([1, 2])]
        self.assertEqual(run(*start, melt("p"))[6:], [[0], [0], [0], [-9, 1]])

    def test_a_new_pipe_may_lie_beside_what_has_set(self):
        text = SIDES.replace("apart m x y\napart l x z\n", "")
        start = [plant(text), *HARD, fill(1, "b", "y"), fill(1, "c", "z"), turns([1, 2])]
        self.assertEqual(run(*start, more("pipe w s t 1 warm"), more("pipe w t o 1 warm"))[9:], [[-9, 0], [0]])


class Pipes(unittest.TestCase):
    def test_each_state(self):
        text = LINE.replace("out o", "drain o")
        told = run(plant(text), pipe("p"), fill(50, "a", "z"), turn("va"), wait(3), flow(20, "a", "o"), pipe("p"),
                   turn("va"), drain("o"), pipe("p"), turn("va"), flow(9, "a", "o"), wait(25), pipe("p"), pipe("q"))
        self.assertEqual([told[1], told[6], told[9], told[13], told[14]],
                         [[0, 0], [0, 2, 2, 3], [0, 1, 2], [0, 3, 2], [0, 2, 2, 3]])

    def test_a_pipe_of_no_kilos(self):
        self.assertEqual(last(*running("x"), pipe("nil")), [0, 2, 0, 0])


class Refused(unittest.TestCase):
    def test_refusals_and_asking_change_nothing(self):
        start = running("x") + [wait(10)]
        asked = [wait(BIG), melt("q"), melt("zz"), melt("a"), pipe("p"), pipe("zz"), sets(), wait(0)]
        self.assertEqual(seen(start, NODES, PIPES), seen(start + asked, NODES, PIPES))


if __name__ == "__main__":
    unittest.main()
