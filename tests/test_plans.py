"""plan, lifted, reach: the fewest turns, and what stands against them."""

import unittest

from calling import fill, last, lifted, look, plan, plant, reach, run, turn, turns, valves

# Milk in a, dark in b; each reaches the tee by its own valve, and the tee reaches the out.
TWO = (
    "product milk 0\nproduct dark 0\napart n milk dark\nvat a 9\nvat b 9\ntee t\nout o\n"
    "valve va a t\nvalve vb b t\nvalve vo t o\n"
)
TWO_FULL = [plant(TWO), fill(5, "a", "milk"), fill(5, "b", "dark")]

# Two ways from a to b: by valves 0 and 1, or by valves 2 and 3.
WAYS = "vat a 9\nvat b 9\ntee s\ntee t\nvalve v0 a s\nvalve v1 s b\nvalve v2 a t\nvalve v3 t b\n"


def tees(count):
    return "".join(f"tee t{number}\n" for number in range(count))


def open_valves(count):
    return "".join(f"valve v{number} t{number} t{number + 1}\n" for number in range(count))


class Rows(unittest.TestCase):
    def test_no_bytes_and_rows_without_lines(self):
        for wants in ("", "then\n", "then\nthen\n"):
            with self.subTest(wants=wants):
                self.assertEqual(run(plan(wants), lifted(wants)), [[0], [-8]])
                self.assertEqual(last(*TWO_FULL, plan(wants)), [0])

    def test_what_holds_now_wants_no_turn(self):
        self.assertEqual(last(plant(WAYS), plan("parted a b\nat v0 0\njoined a a\n")), [0])

    def test_at(self):
        self.assertEqual(last(plant(WAYS), plan("at v2 1\n")), [0, 2])
        self.assertEqual(last(plant(WAYS), turn("v2"), plan("at v2 0\n")), [0, 2])
        self.assertEqual(last(plant(WAYS), plan("at v3 1\nat v0 1\n")), [0, 0, 3])

    def test_joined_and_parted(self):
        self.assertEqual(last(plant(WAYS), plan("joined a b\n")), [0, 0, 1])
        self.assertEqual(last(plant(WAYS), turns([0, 1, 2, 3]), plan("parted a b\n")), [0, 0, 2])
        self.assertEqual(last(plant(WAYS), plan("joined a b\nparted a s\n")), [0, 2, 3])

    def test_what_never_holds(self):
        self.assertEqual(last(plant(WAYS), plan("parted a a\n")), [-7])
        self.assertEqual(last(plant(WAYS), plan("at v0 0\nat v0 1\n")), [-7])
        self.assertEqual(last(plant(WAYS), plan("parted a b\njoined a b\n")), [-7])
        self.assertEqual(last(plant("tee a\ntee b\n"), plan("joined a b\n")), [-7])
        self.assertEqual(last(plant("tee a\ntee b\npipe p a b 1 warm\n"), plan("parted a b\n")), [-7])

    def test_threes(self):
        text = "tee a\ntee b\ntee c\nthree h a b c\n"
        self.assertEqual(last(plant(text), plan("joined a b\n")), [0])
        self.assertEqual(last(plant(text), plan("joined a c\n")), [0, 0])
        self.assertEqual(last(plant(text), plan("joined a c\njoined a b\n")), [-7])
        self.assertEqual(last(plant(text), plan("joined a c\nthen\njoined a b\n")), [0, 0, 0])


class Stages(unittest.TestCase):
    def test_rows_may_hold_at_one_moment(self):
        self.assertEqual(last(plant(WAYS), plan("at v0 1\nthen\nat v0 1\nthen\nat v0 1\n")), [0, 0])
        self.assertEqual(last(plant(WAYS), plan("at v0 0\nthen\nat v0 1\n")), [0, 0])

    def test_a_row_is_left_only_when_it_has_held(self):
        self.assertEqual(last(plant(WAYS), plan("at v0 1\nthen\nat v0 0\n")), [0, 0, 0])
        self.assertEqual(last(plant(WAYS), plan("at v0 1\nthen\nat v0 0\nthen\nat v0 1\n")), [0, 0, 0, 0])
        self.assertEqual(last(plant(WAYS), plan("at v0 1\nat v1 1\nthen\nat v0 0\nat v1 0\n")), [0, 0, 1, 0, 1])

    def test_rows_hold_in_their_order(self):
        self.assertEqual(last(plant(WAYS), plan("at v3 1\nat v0 0\nthen\nat v0 1\n")), [0, 3, 0])
        self.assertEqual(last(plant(WAYS), plan("at v3 1\nthen\nat v0 1\n")), [0, 0, 3])
        self.assertEqual(last(plant(WAYS), plan("at v0 1\nthen\nat v0 0\nat v3 1\n")), [0, 0, 0, 3])

    def test_a_row_without_lines_among_others(self):
        self.assertEqual(last(plant(WAYS), plan("then\nat v0 1\n")), [0, 0])
        self.assertEqual(last(plant(WAYS), plan("at v0 1\nthen\n")), [0, 0])
        self.assertEqual(last(plant(WAYS), plan("at v0 1\nthen\nthen\nat v0 0\n")), [0, 0, 0])

    def test_the_last_row_holds_at_the_end(self):
        self.assertEqual(last(plant(WAYS), plan("at v0 1\nthen\nat v1 1\n")), [0, 0, 1])
        self.assertEqual(last(plant(WAYS), turn("v1"), plan("at v1 1\nthen\nat v0 1\nat v1 1\n")), [0, 0])

    def test_a_stage_that_stands_in_another_ones_way(self):
        wants = "joined a o\nthen\njoined b o\n"
        self.assertEqual(last(*TWO_FULL, plan(wants)), [0, 0, 2, 0, 1])
        self.assertEqual(last(plant(TWO), plan(wants)), [0, 0, 1, 2])


class Fewest(unittest.TestCase):
    def test_the_least_valve_at_the_first_place(self):
        text = "tee a\ntee b\nvalve v0 a b\nvalve v1 a b\nvalve v2 b a\n"
        self.assertEqual(last(plant(text), plan("joined a b\n")), [0, 0])
        self.assertEqual(last(plant(text), turns([0, 1, 2]), plan("parted a b\n")), [0, 0, 1, 2])

    def test_fewer_turns_come_before_lesser_valves(self):
        text = "tee a\ntee b\ntee c\nvalve v0 a c\nvalve v1 c b\nvalve v2 a b\n"
        self.assertEqual(last(plant(text), plan("joined a b\n")), [0, 2])

    def test_eight_valves(self):
        text = tees(9) + open_valves(8)
        self.assertEqual(last(plant(text), plan("joined t0 t8\n")), [0] + list(range(8)))
        self.assertEqual(last(plant(text), plan("joined t8 t0\nthen\nparted t0 t8\n")), [0] + list(range(8)) + [0])

    def test_on_the_way_nothing_meets(self):
        self.assertEqual(last(*TWO_FULL, turn("va"), plan("at vb 1\n")), [0, 0, 1])
        self.assertEqual(last(*TWO_FULL, turn("vb"), plan("joined a o\n")), [0, 1, 0, 2])
        self.assertEqual(last(*TWO_FULL, turn("vb"), turn("vo"), plan("joined a o\n")), [0, 1, 0])

    def test_a_detour_because_of_what_would_meet(self):
        # The straight way, valve 0, would let x and y meet; the way round is longer.
        text = ("product x 0\nproduct y 0\napart n x y\nvat a 9\nvat b 9\nout o\ntee t\n"
                "pipe p b o 1 warm\nvalve v0 a b\nvalve v1 a t\nvalve v2 t o\n")
        self.assertEqual(last(plant(text), plan("joined a o\n")), [0, 0])
        self.assertEqual(last(plant(text), fill(1, "a", "x"), plan("joined a o\n")), [0, 0])
        self.assertEqual(last(plant(text), fill(1, "a", "x"), fill(1, "b", "y"), plan("joined a o\n")), [-7])
        text = text.replace("pipe p b o 1 warm\n", "")
        self.assertEqual(last(plant(text), fill(1, "a", "x"), fill(1, "b", "y"), plan("joined a o\n")), [0, 1, 2])

    def test_the_right_line_up_that_cannot_be_come_to(self):
        # At both ends nothing meets; on the way to it each turn lets x and y meet.
        text = ("product x 0\nproduct y 0\napart n x y\nvat a 9\nvat b 9\ntee s\ntee t\n"
                "three h s a b\nthree g t b a\npipe p s t 1 warm\n")
        broken = text.replace("pipe p s t 1 warm\n", "")
        self.assertEqual(last(plant(broken), fill(1, "a", "x"), fill(1, "b", "y"), plan("at h 1\nat g 1\n")), [0, 0, 1])
        self.assertEqual(last(plant(text), fill(1, "a", "x"), fill(1, "b", "y")), [-9, 0])
        cross = ("product x 0\nproduct y 0\napart n x y\nvat a 9\nvat b 9\ntee s\ntee t\n"
                 "three h a s t\nthree g b t s\n")
        full = [plant(cross), fill(1, "a", "x"), fill(1, "b", "y")]
        self.assertEqual(last(*full, plan("at h 1\nat g 1\n")), [-7])
        self.assertEqual(last(*full, reach()), [0, 1])
        self.assertEqual(last(*full, turns([0, 1])), [-9, 0, 0])
        self.assertEqual(last(*full, lifted("at h 1\nat g 1\n")), [0, 0])

    def test_a_plan_can_be_turned(self):
        wants = "joined a o\nthen\njoined b o\nthen\njoined a t\n"
        turned = last(*TWO_FULL, plan(wants))[1:]
        told = run(*TWO_FULL, turns(turned), plan("joined a t\n"), valves())
        self.assertEqual(told[3:], [[0], [0], [0, 1, 0, 1]])


class Lifted(unittest.TestCase):
    # x, y and z in three vats at one tee.
    three = ("product x 0\nproduct y 0\nproduct z 0\napart xy x y\napart yz z y\napart xz x z\n"
             "vat a 9\nvat b 9\nvat c 9\ntee t\nvalve va a t\nvalve vb b t\nvalve vc c t\n")
    full = [plant(three), fill(1, "a", "x"), fill(1, "b", "y"), fill(1, "c", "z")]

    def test_the_one_that_stands_against_it(self):
        self.assertEqual(last(*self.full, lifted("joined a b\n")), [0, 0])
        self.assertEqual(last(*self.full, lifted("joined c b\n")), [0, 1])
        self.assertEqual(last(*self.full, lifted("joined c a\n")), [0, 2])

    def test_none_alone(self):
        self.assertEqual(last(*self.full, lifted("joined a b\njoined b c\n")), [0])
        self.assertEqual(last(*self.full, lifted("joined a b\nthen\njoined b c\n")), [0])
        self.assertEqual(last(*self.full, lifted("parted a a\n")), [0])

    def test_each_of_several(self):
        # a may be joined to b or to c.
        text = self.three + "tee s\nthree h s b c\npipe p s t 1 warm\n"
        told = last(plant(text), fill(1, "a", "x"), fill(1, "b", "y"), fill(1, "c", "z"), lifted("at va 1\n"))
        self.assertEqual(told, [0, 0, 2])

    def test_it_can_be_done_as_it_is(self):
        self.assertEqual(last(*self.full, lifted("joined a t\n")), [-8])
        self.assertEqual(last(*self.full, lifted("")), [-8])

    def test_without_aparts(self):
        self.assertEqual(last(plant("tee a\ntee b\n"), lifted("joined a b\n")), [0])


class Reach(unittest.TestCase):
    def test_without_valves(self):
        self.assertEqual(run(reach(), plant("tee a\n"), reach()), [[0, 1], [0], [0, 1]])

    def test_all_line_ups(self):
        self.assertEqual(last(plant(tees(9) + open_valves(8)), reach()), [0, 256])
        self.assertEqual(last(plant(TWO), reach()), [0, 8])

    def test_only_safe_ones(self):
        self.assertEqual(last(*TWO_FULL, reach()), [0, 6])
        self.assertEqual(last(*TWO_FULL, turns([0, 2]), reach()), [0, 6])

    def test_safe_ones_that_cannot_be_come_to_are_not_counted(self):
        cross = ("product x 0\nproduct y 0\napart n x y\nvat a 9\nvat b 9\ntee s\ntee t\n"
                 "three h a s t\nthree g b t s\nvalve free s t\n")
        self.assertEqual(last(plant(cross), fill(1, "a", "x"), fill(1, "b", "y"), reach()), [0, 1])


class Faults(unittest.TestCase):
    names = "product x 0\nvat a 9\ntee b\ntee c\npipe p a b 1 warm\nvalve v a b\nthree h b a c\n"

    def fault(self, wants):
        told = run(plant(self.names), plan(wants), lifted(wants))
        self.assertEqual(told[1], told[2])
        return told[1]

    def test_no_such_line(self):
        for line in ("", " ", "joined", "joined a", "joined a ", "joined  a", "at v ", "at  0", "joined a b c",
                     "joined a  b", " joined a b", "joined a b ",
                     "Joined a b", "parted a", "parted a b c", "at v", "at v 2", "at v 00", "at v 01", "at v 0 0",
                     "at v x", "at 0 v", "at v -1", "at v 1\r", "then then", "then ", "Then", "tee n", "joined A b",
                     "joined a 1", "joined abcdefghijklm b", "at 9 0", "at V 1", "parted a b_", "joined a\xe4 b",
                     "joined a ?", "?"):
            with self.subTest(line=line):
                self.assertEqual(self.fault("joined a b\n" + line + "\n"), [-5, 1, 1])

    def test_bytes_behind_the_last_line_feed(self):
        self.assertEqual(self.fault("joined a b"), [-5, 1, 0])
        self.assertEqual(self.fault("joined a b\nthen"), [-5, 1, 1])
        self.assertEqual(self.fault("joined a b\n\x00"), [-5, 1, 1])
        self.assertEqual(self.fault("joined a z\nthen"), [-5, 4, 0])
        self.assertEqual(self.fault("joined a b\n" * 12 + "joined a b"), [-5, 1, 12])

    def test_the_thirteenth_line(self):
        self.assertEqual(last(plant(self.names), plan("joined a b\n" * 12)), [0])
        self.assertEqual(self.fault("joined a b\n" * 13), [-5, 3, 12])
        self.assertEqual(self.fault("then\njoined a b\n" * 2 + "joined a b\n" * 8 + "at v 0\n"), [-5, 3, 12])

    def test_the_third_then(self):
        self.assertEqual(last(plant(self.names), plan("then\nthen\n" + "joined a b\n" * 10)), [0])
        self.assertEqual(self.fault("then\nthen\nthen\n"), [-5, 3, 2])
        self.assertEqual(self.fault("then\njoined a b\nthen\njoined a b\nthen\n"), [-5, 3, 4])

    def test_names_of_nothing_wanted(self):
        for line in ("joined a z", "joined z a", "parted z a", "parted a v", "joined v a", "joined x a", "joined a p",
                     "at z 0", "at a 1", "at x 0", "at p 1", "joined joined joined"):
            with self.subTest(line=line):
                self.assertEqual(self.fault("at h 1\n" + line + "\n"), [-5, 4, 1])

    def test_order(self):
        self.assertEqual(self.fault("joined a b\n" * 12 + "joined a b c\n"), [-5, 1, 12])
        self.assertEqual(self.fault("joined a b\n" * 12 + "joined a z\n"), [-5, 3, 12])
        self.assertEqual(self.fault("joined a b\nat z 0\nwhat\n"), [-5, 4, 1])
        self.assertEqual(self.fault("then\nthen\nthen then\n"), [-5, 1, 2])

    def test_two_names_may_be_one(self):
        self.assertEqual(last(plant(self.names), plan("joined a a\n")), [0])

    def test_the_longest_text(self):
        self.assertEqual(self.fault("j" * 8192), [-5, 1, 0])
        self.assertEqual(self.fault("j" * 8193), [-1])
        self.assertEqual(self.fault("joined a b\n" * 745), [-1])
        self.assertEqual(self.fault("j" * 201 + "\n"), [-5, 1, 0])

    def test_on_the_plant_without_lines(self):
        self.assertEqual(run(plan("joined a b\n"), lifted("at v 0\n"), plan("")), [[-5, 4, 0], [-5, 4, 0], [0]])


class Asking(unittest.TestCase):
    def test_nothing_is_turned(self):
        nodes = ("a", "b", "t", "o")
        asked = [plan("joined a o\n"), lifted("joined a b\n"), reach(), plan("what\n"), plan("j" * 9000)]
        before = run(*TWO_FULL, turn("va"), *look(nodes))[4:]
        after = run(*TWO_FULL, turn("va"), *asked, *look(nodes))[4 + len(asked):]
        self.assertEqual(before, after)

    def test_asked_again_it_is_the_same(self):
        told = run(*TWO_FULL, plan("joined a o\n"), plan("joined a o\n"), reach(), reach())
        self.assertEqual(told[3], told[4])
        self.assertEqual(told[5], told[6])


if __name__ == "__main__":
    unittest.main()
