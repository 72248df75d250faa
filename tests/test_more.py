"""more: a line behind all others, its faults, and that what was there stays."""

import unittest

from calling import balance, dead, drain, fill, flow, joined, last, more, node, pipe, plan, plant, reach, run, seen
from calling import show, things, turn, turns, undo, valves, wait, wash, wets

LINE = (
    "product x 10\nproduct y 0\nvat a 90\nvat b 90\nout o\ntee s\ntee t\n"
    "pipe p s t 4 cold\npipe q t o 3 warm\nvalve va a s\nvalve vb b s\n"
)
COUNT = LINE.count("\n")
NODES = ("a", "b", "o", "s", "t")
PIPES = ("p", "q")
START = [plant(LINE), fill(50, "a", "x"), turn("va"), flow(30, "a", "o"), turn("va"), wait(3), fill(20, "b", "y")]
LINES = (
    "product m 0", "product m 86400", "apart m x y", "apart m y x", "vat m 1", "vat m 1000000", "out m", "drain m",
    "tee m", "pipe m a o 0 warm", "pipe m o b 1000000 cold", "valve m a b", "three m o t s", "tee m23456789012",
)


def text_told(*calls):
    return bytes(last(*calls, show())[1:]).decode()


def many(word, count, rest=""):
    return "".join(f"{word} {word[0]}{word[1]}{k}{rest}\n" for k in range(count))


class Lines(unittest.TestCase):
    def test_each_stands_behind_all_others(self):
        for line in LINES:
            with self.subTest(line=line):
                self.assertEqual(last(plant(LINE), more(line)), [0])
                self.assertEqual(text_told(plant(LINE), more(line)), LINE + line + "\n")

    def test_a_plant_made_line_by_line(self):
        lines = [more(line) for line in LINE.split("\n")[:-1]]
        self.assertEqual(run(*lines), [[0]] * COUNT)
        self.assertEqual(text_told(*lines), LINE)
        calls = START[1:] + [turn("vb")]
        self.assertEqual(run(*lines, *calls)[COUNT:], run(plant(LINE), *calls)[1:])
        self.assertEqual(seen(lines + calls, NODES, PIPES), seen([plant(LINE)] + calls, NODES, PIPES))

    def test_what_was_there_stays(self):
        asked = [node("a"), node("b"), pipe("p"), pipe("q"), wait(0), node("o"), valves(), balance()]
        kept = [[0, 0, 20], [0, 1, 20], [0, 2, 0, 0], [0, 2, 0, 0], [0, 3], [0, 23, 0], [0, 0, 0],
                [0, 50, 20, 7, 23, 0, 20, 20, 0, 0, 0]]
        for line in LINES:
            with self.subTest(line=line):
                told = run(*START, more(line), *asked)[len(START):]
                self.assertEqual(told[0], [0])
                self.assertEqual([answer[:len(old)] for answer, old in zip(told[1:], kept)], kept)

    def test_valves_stay_as_they_are(self):
        self.assertEqual(run(plant(LINE), turns([1]), more("valve m a b"), valves(), more("three n a b o"),
                             valves())[3::2], [[0, 0, 1, 0], [0, 0, 1, 0, 0]])

    def test_a_new_vat_is_empty(self):
        told = run(*START, more("vat m 7"), node("m"), fill(8, "m", "y"), fill(7, "m", "y"), node("m"))
        self.assertEqual(told[7:], [[0], [0], [-8], [0], [0, 1, 7]])

    def test_new_outs_and_drains_had_nothing(self):
        told = run(*START, more("out m"), more("drain n"), node("m"), node("n"), joined("m"), joined("n"))
        self.assertEqual(told[7:], [[0], [0], [0, 0, 0], [0, 0, 0], [0, 5], [0, 6]])

    def test_a_new_pipe_is_empty_and_joins_at_once(self):
        told = run(*START, joined("s"), more("pipe m s vv 2 warm"), more("tee vv"), more("pipe m vv s 2 cold"),
                   pipe("m"), joined("s"), wets("s"), dead("s", "o"), pipe("p"))
        self.assertEqual(told[7:], [[0, 2, 3, 4], [-5, 4, COUNT], [0], [0], [0, 0], [0, 2, 3, 4, 5], [0, 2, 2], [0, 2],
                                    [0, 2, 0, 0]])

    def test_a_new_valve_is_at_nought_and_turns(self):
        told = run(plant(LINE), more("valve m a b"), joined("a"), turn("m"), joined("a"), turns([2]), joined("a"))
        self.assertEqual(told[1:], [[0], [0, 0], [0], [0, 0, 1], [0], [0, 0]])

    def test_a_new_three_joins_its_first_with_its_second(self):
        told = run(plant(LINE), more("three m a b o"), joined("a"), turn("m"), joined("a"))
        self.assertEqual(told[1:], [[0], [0, 0, 1], [0], [0, 0, 2, 3, 4]])

    def test_of_a_new_product_there_is_nothing_anywhere(self):
        told = run(*START, more("product m 5"), balance(), node("o"), node("b"), fill(1, "b", "m"), more("vat n 5"),
                   fill(5, "n", "m"), node("n"), balance())
        self.assertEqual(told[7:], [[0], [0, 50, 20, 7, 23, 0, 20, 20, 0, 0, 0, 0, 0, 0, 0, 0], [0, 23, 0, 0],
                                    [0, 1, 20], [-6], [0], [0], [0, 2, 5],
                                    [0, 50, 20, 7, 23, 0, 20, 20, 0, 0, 0, 5, 5, 0, 0, 0]])

    def test_a_new_product_flows_and_sets(self):
        start = [plant(LINE), more("product m 5"), fill(20, "b", "m"), turn("vb"), flow(10, "b", "o"), wait(4)]
        self.assertEqual(run(*start, pipe("p"), wait(1), pipe("p"), node("o"))[6:],
                         [[0, 2, 2, 0], [0, 5], [0, 3, 2], [0, 0, 0, 3]])

    def test_a_new_apart_holds_from_then_on(self):
        told = run(*START, turn("vb"), turn("vb"), more("apart n x y"), turn("vb"), plan("at vb 1\n"), reach())
        self.assertEqual(told[7:], [[0], [0], [0], [-9, 0], [-7], [0, 2]])

    def test_a_new_drain_drains(self):
        told = run(*START, more("drain m"), more("valve vm m s"), turns([2]), drain("m"))
        self.assertEqual(told[7:], [[0], [0], [0], [-10]])
        text = LINE.replace("out o", "tee o")
        told = run(plant(text), more("out e"), more("valve ve e o"), fill(50, "a", "x"), turns([0, 2]),
                   flow(30, "a", "e"), turns([0, 2]), more("drain m"), more("pipe n m s 5 warm"), drain("m"),
                   wash("m"))
        self.assertEqual(told[5:], [[0, 23], [0], [0], [0], [0, 7], [0, 2]])


class Faults(unittest.TestCase):
    def refused(self, line, text=LINE):
        calls = [plant(text), wait(2), more(line)]
        self.assertEqual(text_told(*calls), text)
        self.assertEqual(last(*calls, undo()), [0, 1 if text else 0])
        return last(*calls)

    def test_no_such_line(self):
        for line in ("", " ", "tee", "tee ", "tee  m", " tee m", "tee m ", "tee m\n", "\ntee m", "tee m\ntee n", "Tee m",
                     "tee M", "tee 1m", "tee m m", "tee " + "m" * 13, "vat m 0", "vat m 1000001", "vat m 01", "vat m",
                     "product m 86401", "product m -1", "product m", "pipe m s t 1", "pipe m s t 1 hot",
                     "pipe m s t 1000001 warm", "pipe m s t 01 warm", "apart m x", "valve m s", "valve m s t o",
                     "three m s t", "then", "joined s t", "tee m\x00", "tee m\xff", "tee\tm", "what"):
            with self.subTest(line=line):
                self.assertEqual(self.refused(line), [-5, 1, COUNT])

    def test_its_name_stands_above(self):
        for line in ("tee a", "product x 1", "vat p 1", "out va", "valve q s t", "pipe x a zz 1 warm", "apart a x x"):
            with self.subTest(line=line):
                self.assertEqual(self.refused(line), [-5, 2, COUNT])

    def test_one_too_many_of_its_sort(self):
        above = "tee a\ntee b\ntee c\nproduct x 0\nproduct y 0\n"
        for text, line in ((many("product", 6, " 1"), "product m 1"),
                           (many("tee", 9) + many("vat", 9, " 1"), "out m"),
                           (above + many("pipe", 18, " a b 1 warm"), "pipe m a zz 1 warm"),
                           (above + many("valve", 4, " a b") + many("three", 4, " a b c"), "valve m a a"),
                           (above + many("valve", 4, " a b") + many("three", 4, " a b c"), "three m a b c")):
            with self.subTest(line=line):
                self.assertEqual(self.refused(line, text), [-5, 3, text.count("\n")])
        pairs = [(one, other) for one in range(6) for other in range(one)]
        text = many("product", 6, " 1")
        text += "".join(f"apart n{k} pr{one} pr{other}\n" for k, (one, other) in enumerate(pairs[:8]))
        self.assertEqual(self.refused("apart m pr5 pr4", text), [-5, 3, 14])

    def test_the_last_that_there_may_be(self):
        text = many("tee", 17)
        told = run(plant(text), more("tee m"), more("tee n"), more("pipe n m te0 1 warm"))
        self.assertEqual(told[1:], [[0], [-5, 3, 18], [0]])

    def test_names_of_no_line_above(self):
        for line in ("apart m x zz", "apart m x a", "pipe m s zz 1 warm", "pipe m s p 1 warm", "valve m m s",
                     "valve m x s", "three m s t zz"):
            with self.subTest(line=line):
                self.assertEqual(self.refused(line), [-5, 4, COUNT])

    def test_two_names_are_one(self):
        for line in ("apart m x x", "pipe m s s 1 warm", "valve m t t", "three m s t s"):
            with self.subTest(line=line):
                self.assertEqual(self.refused(line), [-5, 5, COUNT])
        text = LINE + "apart n x y\n"
        self.assertEqual(self.refused("apart m x y", text), [-5, 5, COUNT + 1])
        self.assertEqual(self.refused("apart m y x", text), [-5, 5, COUNT + 1])

    def test_the_number_is_how_many_lines_there_are(self):
        self.assertEqual(self.refused("what", ""), [-5, 1, 0])
        told = run(more("what"), more("tee a"), more("what"), more("tee b"), more("tee a"), undo(), more("tee a"))
        self.assertEqual(told, [[-5, 1, 0], [0], [-5, 1, 1], [0], [-5, 2, 2], [0, 1], [-5, 2, 1]])

    def test_a_line_of_more_than_two_hundred(self):
        self.assertEqual(self.refused("m" * 200), [-5, 1, COUNT])
        self.assertEqual(self.refused("m" * 201), [-1])
        self.assertEqual(self.refused([255] * 9000), [-1])
        self.assertEqual(self.refused("tee m" + " " * 195), [-5, 1, COUNT])
        self.assertEqual(self.refused("tee m" + " " * 196), [-1])
        self.assertEqual(self.refused("tee a" + "\n" * 196), [-1])


class Meetings(unittest.TestCase):
    def refused(self, *calls):
        self.assertEqual(seen(calls[:-1], NODES, PIPES), seen(calls, NODES, PIPES))
        return last(*calls)

    def test_an_apart_of_two_that_are_together(self):
        self.assertEqual(self.refused(*START, turn("vb"), more("apart m x y")), [-9, 0])
        self.assertEqual(run(*START, turn("vb"), turn("vb"), more("apart m y x"))[-1], [0])

    def test_its_number_is_the_new_ones(self):
        text = "product z 0\nproduct w 0\n" + LINE + "apart n z w\napart l z x\n"
        start = [plant(text)] + START[1:] + [turn("vb")]
        self.assertEqual(self.refused(*start, more("apart m y x")), [-9, 2])

    def test_films_and_set_pipes_meet_too(self):
        start = [plant(LINE)] + START[1:] + [wait(10), turn("vb")]
        self.assertEqual(last(*start, pipe("p")), [0, 3, 0])
        self.assertEqual(self.refused(*start, more("apart m x y")), [-9, 0])
        text = LINE.replace("out o", "drain o")
        start = [plant(text)] + START[1:] + [drain("o"), turn("vb")]
        self.assertEqual(last(*start, pipe("p")), [0, 1, 0])
        self.assertEqual(self.refused(*start, more("apart m x y")), [-9, 0])
        start = [plant(text)] + START[1:] + [drain("o"), wash("o"), turn("vb")]
        self.assertEqual(last(*start, more("apart m x y")), [0])

    def test_a_pipe_that_would_join_them(self):
        start = START + [more("apart n x y")]
        self.assertEqual(self.refused(*start, more("pipe m b t 1 warm")), [-9, 0])
        self.assertEqual(self.refused(*start, more("pipe m a b 0 cold")), [-9, 0])
        self.assertEqual(last(*start, more("pipe m a t 0 cold")), [0])

    def test_a_valve_that_would_not_and_a_three_that_would(self):
        start = START + [more("apart n x y"), more("tee u")]
        self.assertEqual(self.refused(*start, more("three m b t u")), [-9, 0])
        self.assertEqual(self.refused(*start, more("three m o b u")), [-9, 0])
        self.assertEqual(run(*start, more("three m b u t"), turn("m"))[-2:], [[0], [-9, 0]])
        self.assertEqual(run(*start, more("valve m b t"), turn("m"))[-2:], [[0], [-9, 0]])

    def test_the_first_apart_is_told(self):
        text = ("product x 0\nproduct y 0\nproduct z 0\napart n x z\napart l x y\napart k y z\nvat a 9\nvat b 9\nvat c 9\n"
                "valve v b c\n")
        start = [plant(text), fill(1, "a", "x"), fill(1, "b", "y"), fill(1, "c", "z")]
        self.assertEqual(last(*start, more("pipe m a b 1 warm")), [-9, 1])
        self.assertEqual(last(*start, more("pipe m c a 1 warm")), [-9, 0])
        self.assertEqual(last(*start, more("pipe m c b 1 warm")), [-9, 2])

    def test_a_fault_comes_before_a_meeting(self):
        start = START + [turn("vb")]
        self.assertEqual(self.refused(*start, more("apart a x y")), [-5, 2, COUNT])

    def test_what_was_refused_leaves_no_name(self):
        told = run(*START, turn("vb"), more("apart m x y"), more("tee m"))
        self.assertEqual(told[8:], [[-9, 0], [0]])


if __name__ == "__main__":
    unittest.main()
