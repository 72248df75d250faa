"""cacaoworks.plant.answers: how calls and answers stand in their lists, and what is kept."""

import unittest

from calling import dead, drain, fill, flow, joined, melt, more, node, pipe, plan, plant, run, show, turn, valves, wash
from cacaoworks.plant import answers

TEXT = "product x 0\nvat a 9\nout o\nvalve v a o\n"


class Lists(unittest.TestCase):
    def test_answers_stand_behind_their_counts(self):
        self.assertEqual(answers([6]), [1, 0])
        self.assertEqual(answers([2, 11, 6]), [1, 0, 2, 0, 1, 1, 0])
        self.assertEqual(answers([1, 6] + list(b"tee a\n") + [7, 1, 97]), [1, 0, 2, 0, 0])
        self.assertEqual(answers([1, 1, 0, 2]), [3, -5, 1, 0, 1, 0])
        self.assertEqual(answers([3, 0, 0, 0]), [1, -1])
        self.assertEqual(answers([12, 5, 0, 0, 5, 0, 9, 0]), [1, -4, 1, 0, 1, 0])

    def test_rows_that_look_like_calls(self):
        self.assertEqual(answers([4, 3, 1, 2, 3, 13, 2, 11, 11, 6]), [1, -4, 1, -4, 1, 0])

    def test_the_calls_with_no_rows(self):
        self.assertEqual(answers([21, 22, 23, 24]), [1, 0, 1, 0, 1, -3, 1, -3])
        self.assertEqual(answers([17, 5, 17, 0, 23, 24]), [2, 0, 5, 2, 0, 5, 2, 0, 0, 2, 0, 0])
        self.assertEqual(answers([17, 4294967295, 17, 23, 23]), [1, -1, 2, 0, 23, 2, 0, 0])

    def test_the_calls_with_one_row(self):
        self.assertEqual(answers([15, 0, 16, 0, 18, 0, 19, 0, 20, 0]), [1, -4] * 5)
        self.assertEqual(answers([15, 1, 15, 16, 1, 16, 18, 1, 18, 19, 1, 19, 20, 1, 20, 6]), [1, -4] * 5 + [1, 0])
        self.assertEqual(answers([25, 5] + list(b"tee a") + [7, 1, 97, 25, 0]), [1, 0, 2, 0, 0, 3, -5, 1, 1])
        self.assertEqual(answers([25, 201] + [25] * 201 + [6]), [1, -1, 1, 0])

    def test_dead_has_two_rows(self):
        self.assertEqual(answers([14, 0, 0, 6]), [1, -4, 1, 0])
        self.assertEqual(answers([25, 5] + list(b"tee a") + [14, 1, 97, 1, 97, 14, 1, 97, 2, 14, 14]),
                         [1, 0, 1, 0, 1, -4])

    def test_sixty_calls(self):
        told = run(*([plant(TEXT)] + [turn("v")] * 58 + [valves()]))
        self.assertEqual(told, [[0]] * 59 + [[0, 0]])

    def test_long_names(self):
        long = [97] * 9000
        self.assertEqual(run(turn(long), joined(long), fill(1, long, long)), [[-4]] * 3)
        self.assertEqual(run(flow(1, long, long)), [[-4]])
        self.assertEqual(run(dead(long, long), drain(long)), [[-4]] * 2)
        self.assertEqual(run(wash(long), melt(long), pipe(long)), [[-4]] * 3)
        self.assertEqual(run(node(long), more(long)), [[-4], [-1]])

    def test_all_bytes(self):
        for byte in range(256):
            told = run(plant("tee a\n"), joined([byte]), plan([byte]), plant([byte]))
            self.assertEqual(told[1:], [[0, 0] if byte == 97 else [-4], [-5, 1, 0], [-5, 1, 0]])

    def test_a_bad_byte_in_a_name_is_never_taken_for_another(self):
        self.assertEqual(run(plant("tee a\ntee aa\n"), joined("a\x00"), joined("a?"), joined("\xff"))[1:], [[-4]] * 3)


class Kept(unittest.TestCase):
    def test_nothing_from_one_time_to_the_next(self):
        calls = plant(TEXT) + fill(5, "a", "x") + turn("v") + show()
        told = answers(calls)
        self.assertEqual(answers(calls), told)
        self.assertEqual(answers([2, 6]), [1, 0, 1, 0])

    def test_an_answer_that_is_changed_later_changes_nothing(self):
        calls = plant(TEXT) + show()
        told = answers(calls)
        kept = list(told)
        told.clear()
        self.assertEqual(answers(calls), kept)

    def test_changes_are_kept_for_one_list_alone(self):
        self.assertEqual(answers([17, 5, 17, 5]), [2, 0, 5, 2, 0, 10])
        self.assertEqual(answers([23, 24, 17, 0]), [1, -3, 1, -3, 2, 0, 0])

    def test_the_list_that_is_handed_in_stays(self):
        calls = plant(TEXT) + fill(5, "a", "x") + turn("v") + flow(2, "a", "o") + plan("at v 0\n") + [5, 2, 0, 0]
        calls += more("drain d") + drain("d") + wash("d") + [17, 5, 23, 23, 24, 21, 22] + dead("a", "o") + melt("p")
        kept = list(calls)
        answers(calls)
        self.assertEqual(calls, kept)


if __name__ == "__main__":
    unittest.main()
