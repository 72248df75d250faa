"""fill, turn, turns, valves, joined, things: what is joined and what mustn't meet."""

import unittest

from calling import fill, flow, joined, last, look, plant, run, show, things, turn, turns, valves

# Two vats on one tee, each behind a valve, and an out behind a three that has its other way to a drain.
STAR = (
    "product dark 0\nproduct milk 0\nproduct nut 0\napart first dark nut\napart second milk dark\n"
    "vat a 100\nvat b 50\ntee t\nout o\ndrain d\n"
    "pipe p t o 5 warm\nvalve va a t\nvalve vb b t\nthree side d a b\n"
)
NODES = ("a", "b", "t", "o", "d")
BIG = 4294967295


class Valves(unittest.TestCase):
    def test_all_are_at_nought_at_the_beginning(self):
        self.assertEqual(last(plant(STAR), valves()), [0, 0, 0, 0])

    def test_a_turn_turns_to_the_other_position_and_back(self):
        told = run(plant(STAR), turn("vb"), valves(), turn("side"), valves(), turn("vb"), valves())
        self.assertEqual(told[1:], [[0], [0, 0, 1, 0], [0], [0, 0, 1, 1], [0], [0, 0, 0, 1]])

    def test_names_of_no_valve(self):
        for name in ("", "va ", "vaa", "a", "p", "dark", "first", "VA", "v\x00", "x" * 9000):
            with self.subTest(name=name):
                self.assertEqual(run(plant(STAR), turn(name), valves())[1:], [[-4], [0, 0, 0, 0]])

    def test_turns_one_after_another(self):
        self.assertEqual(run(plant(STAR), turns([1, 2, 1, 0]), valves())[1:], [[0], [0, 1, 0, 1]])
        self.assertEqual(run(plant(STAR), turns([]), valves())[1:], [[0], [0, 0, 0, 0]])

    def test_how_many_turns(self):
        self.assertEqual(run(plant(STAR), turns([0] * 39), valves())[1:], [[0], [0, 1, 0, 0]])
        self.assertEqual(run(plant(STAR), turns([0] * 40), valves())[1:], [[0], [0, 0, 0, 0]])
        self.assertEqual(run(plant(STAR), turns([0] * 41), valves())[1:], [[-1], [0, 0, 0, 0]])
        self.assertEqual(last(plant(STAR), turns([BIG] * 50)), [-1])

    def test_a_number_that_there_is_not(self):
        self.assertEqual(last(plant(STAR), turns([2])), [0])
        self.assertEqual(run(plant(STAR), turns([0, 3]), valves())[1:], [[-4], [0, 0, 0, 0]])
        self.assertEqual(last(plant(STAR), turns([BIG])), [-4])
        self.assertEqual(last(turns([0])), [-4])
        self.assertEqual(last(turns([])), [0])


class Joined(unittest.TestCase):
    def test_by_pipes_and_threes_at_the_beginning(self):
        told = run(plant(STAR), *[joined(name) for name in NODES])
        self.assertEqual(told[1:], [[0, 0, 4], [0, 1], [0, 2, 3], [0, 2, 3], [0, 0, 4]])

    def test_by_any_number_of_steps(self):
        told = run(plant(STAR), turn("va"), *[joined(name) for name in NODES])
        self.assertEqual(told[2:], [[0, 0, 2, 3, 4], [0, 1], [0, 0, 2, 3, 4], [0, 0, 2, 3, 4], [0, 0, 2, 3, 4]])

    def test_a_three_at_one_joins_its_first_with_its_third(self):
        told = run(plant(STAR), turn("side"), *[joined(name) for name in NODES])
        self.assertEqual(told[2:], [[0, 0], [0, 1, 4], [0, 2, 3], [0, 2, 3], [0, 1, 4]])

    def test_a_valve_at_nought_joins_nothing(self):
        text = "tee a\ntee b\nvalve v a b\n"
        told = run(plant(text), joined("a"), turn("v"), joined("a"), joined("b"), turn("v"), joined("a"))
        self.assertEqual(told[1:], [[0, 0], [0], [0, 0, 1], [0, 0, 1], [0], [0, 0]])

    def test_a_circle(self):
        text = "tee a\ntee b\ntee c\npipe p a b 1 warm\npipe q b c 1 warm\npipe r c a 1 cold\n"
        self.assertEqual(run(plant(text), joined("b"))[1], [0, 0, 1, 2])

    def test_a_long_chain_named_against_its_order(self):
        nodes = "".join(f"tee t{k}\n" for k in range(18))
        pipes = "".join(f"pipe p{k} t{k + 1} t{k} 1 warm\n" for k in reversed(range(17)))
        self.assertEqual(run(plant(nodes + pipes), joined("t9"))[1], [0] + list(range(18)))

    def test_names_of_no_node(self):
        for name in ("", "A", "p", "va", "dark", "first", "a\n", "a" * 9000):
            with self.subTest(name=name):
                self.assertEqual(run(plant(STAR), joined(name), things(name))[1:], [[-4], [-4]])


class Fills(unittest.TestCase):
    def test_kilos(self):
        told = run(plant(STAR), fill(0, "a", "dark"), fill(1000001, "a", "dark"), fill(BIG, "a", "dark"), things("a"))
        self.assertEqual(told[1:], [[-1], [-1], [-1], [0]])
        text = "product x 0\nvat a 1000000\n"
        self.assertEqual(run(plant(text), fill(1000000, "a", "x"), fill(1, "a", "x"))[1:], [[0], [-8]])
        self.assertEqual(run(plant(text), fill(1, "a", "x"), fill(1000000, "a", "x"), fill(999999, "a", "x"))[1:],
                         [[0], [-8], [0]])

    def test_the_room_counts_what_is_there(self):
        told = run(plant(STAR), fill(51, "b", "milk"), fill(50, "b", "milk"), fill(1, "b", "milk"))
        self.assertEqual(told[1:], [[-8], [0], [-8]])

    def test_names(self):
        told = run(plant(STAR), fill(1, "z", "milk"), fill(1, "a", "z"), fill(1, "milk", "milk"), fill(1, "a", "a"),
                   fill(1, "a", ""), fill(1, "", "milk"), fill(1, "va", "milk"), fill(1, "a", "first"), things("a"))
        self.assertEqual(told[1:], [[-4]] * 8 + [[0]])

    def test_a_node_that_is_no_vat(self):
        told = run(plant(STAR), fill(1, "t", "milk"), fill(1, "o", "milk"), fill(1, "d", "milk"), things("t"))
        self.assertEqual(told[1:], [[-2], [-2], [-2], [0]])

    def test_another_product(self):
        told = run(plant(STAR), fill(1, "b", "milk"), fill(1, "b", "nut"), fill(1, "b", "milk"), things("b"))
        self.assertEqual(told[1:], [[0], [-6], [0], [0, 1]])

    def test_two_would_meet(self):
        told = run(plant(STAR), turns([0, 1]), fill(1, "a", "dark"), fill(1, "b", "milk"), fill(1, "b", "nut"),
                   things("t"), fill(1, "b", "dark"))
        self.assertEqual(told[1:], [[0], [0], [-9, 1], [-9, 0], [0, 0], [0]])

    def test_those_not_told_apart_may_meet(self):
        told = run(plant(STAR), turns([0, 1]), fill(1, "b", "nut"), fill(1, "a", "milk"), things("o"))
        self.assertEqual(told[1:], [[0], [0], [0], [0, 1, 2]])

    def test_order(self):
        met = [plant(STAR), turns([0, 1]), fill(1, "a", "dark")]
        self.assertEqual(last(*met, fill(0, "z", "z")), [-1])
        self.assertEqual(last(*met, fill(1, "t", "z")), [-4])
        self.assertEqual(last(*met, fill(101, "a", "nut")), [-6])
        self.assertEqual(last(*met, fill(51, "b", "nut")), [-8])
        self.assertEqual(last(*met, fill(50, "b", "nut")), [-9, 0])


class Meetings(unittest.TestCase):
    apart = [plant(STAR), fill(1, "a", "dark"), fill(1, "b", "milk")]

    def test_a_turn_that_would_let_two_meet(self):
        told = run(*self.apart, turn("va"), turn("vb"), valves(), turn("va"), turn("vb"), turn("va"), valves())
        self.assertEqual(told[3:], [[0], [-9, 1], [0, 1, 0, 0], [0], [0], [-9, 1], [0, 0, 1, 0]])

    def test_the_first_apart_is_told(self):
        text = ("product x 0\nproduct y 0\nproduct z 0\napart one y z\napart two x y\napart three3 x z\n"
                "vat a 9\nvat b 9\nvat c 9\ntee t\nvalve va a t\nvalve vb b t\nvalve vc c t\n")
        full = [plant(text), fill(1, "a", "x"), fill(1, "b", "y"), fill(1, "c", "z")]
        self.assertEqual(run(*full, turn("va"), turn("vb"))[5], [-9, 1])
        self.assertEqual(run(*full, turn("va"), turn("vc"))[5], [-9, 2])
        self.assertEqual(run(*full, turn("vb"), turn("vc"))[5], [-9, 0])

    def test_the_first_of_two_that_would_meet_at_once(self):
        text = ("product x 0\nproduct y 0\nproduct z 0\nproduct w 0\napart one y w\napart two x y\napart more x w\n"
                "vat a 9\nvat b 9\nvat c 9\nvalve v1 a b\nvalve v2 b c\n")
        full = [plant(text), fill(1, "a", "x"), fill(1, "b", "z"), fill(1, "c", "y"), turn("v1")]
        self.assertEqual(last(*full, turn("v2")), [-9, 1])

    def test_turns_look_at_every_line_up_on_the_way(self):
        told = run(*self.apart, turns([0, 1, 0]), valves(), turns([0, 0, 1, 2]), valves())
        self.assertEqual(told[3:], [[-9, 1, 1], [0, 0, 0, 0], [0], [0, 0, 1, 1]])

    def test_turns_tell_the_place_and_turn_none(self):
        told = run(*self.apart, turn("vb"), turns([2, 2, 2, 0, 1]), valves())
        self.assertEqual(told[3:], [[0], [-9, 1, 3], [0, 0, 1, 0]])

    def test_turns_whose_order_matters(self):
        told = run(*self.apart, turn("va"), turns([1, 0]), turns([0, 1]), valves())
        self.assertEqual(told[3:], [[0], [-9, 1, 0], [0], [0, 0, 1, 0]])

    def test_a_missing_valve_comes_before_a_meeting(self):
        self.assertEqual(last(*self.apart, turns([0, 1, 9])), [-4])

    def test_a_three_passes_from_one_to_the_other_at_once(self):
        told = run(*self.apart, turn("side"), things("d"), turn("side"), things("d"))
        self.assertEqual(told[3:], [[0], [0, 1], [0], [0, 0]])

    def test_what_is_in_a_pipe_meets_too(self):
        text = ("product x 0\nproduct y 0\napart n x y\nvat a 9\nout o\ntee t\nvat b 9\n"
                "valve va a t\npipe p t o 3 warm\nvalve vb b t\n")
        full = [plant(text), fill(3, "a", "x"), turn("va"), flow(3, "a", "o"), turn("va")]
        told = run(*full, things("a"), things("t"), things("o"), fill(1, "b", "y"), turn("vb"), valves())
        self.assertEqual(told[4:], [[0], [0], [0, 0], [0, 0], [0], [-9, 0], [0, 0, 0]])

    def test_what_came_to_an_out_is_not_there_any_more(self):
        text = "product x 0\nproduct y 0\napart n x y\nvat a 9\nvat b 9\nout o\nvalve va a o\nvalve vb b o\n"
        told = run(plant(text), fill(5, "a", "x"), fill(5, "b", "y"), turn("va"), flow(5, "a", "o"), things("o"),
                   turn("vb"), things("o"))
        self.assertEqual(told[4:], [[0, 5], [0], [0], [0, 1]])


class Things(unittest.TestCase):
    def test_nothing_is_there_at_the_beginning(self):
        self.assertEqual(run(plant(STAR), *[things(name) for name in NODES])[1:], [[0]] * 5)

    def test_products_rise_and_stand_once(self):
        text = "product x 0\nproduct y 0\nproduct z 0\nvat a 9\nvat b 9\nvat c 9\npipe p a b 1 warm\nvalve v b c\n"
        full = [plant(text), fill(1, "a", "z"), fill(1, "b", "x"), fill(1, "c", "z")]
        told = run(*full, things("a"), things("c"), turn("v"), things("c"))
        self.assertEqual(told[4:], [[0, 0, 2], [0, 2], [0], [0, 0, 2]])


class Asking(unittest.TestCase):
    def test_asking_and_refusals_change_nothing(self):
        full = [plant(STAR), fill(30, "a", "dark"), fill(20, "b", "milk"), turns([2, 0]), flow(9, "a", "o")]
        self.assertEqual(run(*full), [[0], [0], [0], [0], [0, 4]])
        refused = [fill(0, "a", "dark"), fill(1, "a", "milk"), fill(99, "a", "dark"), fill(1, "t", "dark"),
                   turn("vb"), turn("no"), turns([1]), turns([0, 7]), turns([0] * 41), plant("what\n"),
                   flow(1, "a", "b"), show(), valves()]
        before = run(*full, *look(NODES))[5:]
        after = run(*full, *refused, *look(NODES))[5 + len(refused):]
        self.assertEqual(before, after)
        for answer in run(*full, *refused)[5:-2]:
            self.assertLess(answer[0], 0)


if __name__ == "__main__":
    unittest.main()
