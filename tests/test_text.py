"""plant and print: the text of a plant and its faults."""

import unittest

from calling import fill, last, plant, run, show, turn, valves, things, wets, joined

EVERY_LINE = (
    "product dark 0\nproduct milk 86400\napart milky dark milk\nvat v 1\nvat w 1000000\nout o\ndrain d\ntee t\n"
    "pipe p v t 0 warm\npipe q w t 1000000 cold\nvalve g t o\nthree h t d w\n"
)


def fault(text):
    return last(plant(text))


class Texts(unittest.TestCase):
    def test_every_line_is_taken_and_printed(self):
        self.assertEqual(run(plant(EVERY_LINE), show()), [[0], [0] + list(EVERY_LINE.encode())])

    def test_the_plant_without_lines(self):
        self.assertEqual(run(show(), valves(), plant(""), show(), valves()), [[0]] * 5)

    def test_a_faulty_text_leaves_the_plant_as_it_was(self):
        told = run(plant("tee a\n"), plant("tee b\ntee b\n"), show(), joined("a"), joined("b"))
        self.assertEqual(told, [[0], [-5, 2, 1], [0] + list(b"tee a\n"), [0, 0], [-4]])

    def test_a_plant_is_at_its_beginning(self):
        text = "product x 5\nvat a 9\nvat b 9\npipe p a b 3 warm\nvalve g a b\n"
        told = run(plant(text), fill(9, "a", "x"), turn("g"), [12, 5, 1, 97, 1, 98],
                   plant(text), valves(), things("a"), wets("a"))
        self.assertEqual(told[4:], [[0], [0, 0], [0], [0, 3, 0]])

    def test_what_was_named_before_is_forgotten(self):
        self.assertEqual(run(plant("tee a\n"), plant("tee b\n"), joined("a"))[2], [-4])


class Lengths(unittest.TestCase):
    def test_the_longest_text(self):
        self.assertEqual(fault("a" * 8192), [-5, 1, 0])
        self.assertEqual(fault("a" * 8193), [-1])
        self.assertEqual(fault("a" * 9000), [-1])
        self.assertEqual(fault("tee a\n" * 1366), [-1])
        self.assertEqual(fault("tee a\n" * 1365), [-5, 2, 1])

    def test_a_refused_long_text_changes_nothing(self):
        self.assertEqual(run(plant("tee a\n"), plant("\n" * 8193), show())[2], [0] + list(b"tee a\n"))

    def test_a_long_line_in_a_text_is_no_such_line(self):
        self.assertEqual(fault("tee a\n" + "b" * 201 + "\n"), [-5, 1, 1])


class KindOne(unittest.TestCase):
    def refuse(self, *lines):
        for line in lines:
            with self.subTest(line=line):
                text = "product x 1\nproduct y 1\ntee a\ntee b\ntee c\n"
                self.assertEqual(fault(text + line + "\n"), [-5, 1, 5])

    def take(self, *lines):
        for line in lines:
            with self.subTest(line=line):
                text = "product x 1\nproduct y 1\ntee a\ntee b\ntee c\n"
                self.assertEqual(fault(text + line + "\n"), [0])

    def test_no_such_first_word(self):
        self.refuse("", " ", "tees n", "Tee n", "TEE n", "node n", "n", "tee", "then", "joined a b", "fill 3 a x")

    def test_too_few_and_too_many_words(self):
        self.refuse("product n", "product n 1 1", "apart n x", "apart n x y x", "vat n", "vat n 1 1", "out", "out n n",
                    "drain", "drain n 1", "tee n n", "pipe n a b 1", "pipe n a b 1 warm cold", "pipe n a b warm",
                    "valve n a", "valve n a b c", "three n a b", "three n a b c a")

    def test_blanks(self):
        self.refuse("tee ", "product n ", "product  1", "vat n ", "pipe n a b  warm", "pipe n  b 1 warm", "valve n a ",
                    " tee n", "tee n ", "tee  n", "tee\tn", "tee n\r", "tee\x00n", "tee n\x0b", "tee\xa0n")

    def test_the_form_of_names(self):
        self.take("tee n", "tee abcdefghijkl", "tee a00000000000", "tee z9", "tee tee", "tee warm", "tee then")
        self.refuse("tee abcdefghijklm", "tee 9", "tee 9a", "tee N", "tee nN", "tee n_", "tee n-1", "tee n?", "tee ?",
                    "tee \xe4", "tee n\xff", "tee n\x80", "tee {", "tee `", "tee n/", "tee n:",
                    "pipe n A b 1 warm", "valve n a 0", "three n a b C", "apart n x 1")

    def test_the_form_of_numbers(self):
        self.refuse("product n 00", "product n 01", "product n +1", "product n -1", "product n 1.0", "product n 1_0",
                    "product n x", "product n 0x1", "product n \xb2", "vat n 007", "pipe n a b 00 warm",
                    "product n 1e3",
                    "product n " + "0" * 100, "product n " + "9" * 5000, "vat n " + "1" * 7000)

    def test_the_least_and_the_most(self):
        self.take("product n 0", "product n 86400", "vat n 1", "vat n 1000000", "pipe n a b 0 warm",
                  "pipe n a b 1000000 cold")
        self.refuse("product n 86401", "product n 99999", "product n 100000", "vat n 0", "vat n 1000001",
                    "vat n 9999999", "vat n 10000000", "pipe n a b 1000001 warm", "pipe n a b 4294967296 cold")

    def test_warm_and_cold(self):
        self.refuse("pipe n a b 1 hot", "pipe n a b 1 Warm", "pipe n a b 1 0", "pipe n a b 1 ")

    def test_bytes_behind_the_last_line_feed(self):
        self.assertEqual(fault("tee a"), [-5, 1, 0])
        self.assertEqual(fault("tee a\ntee b"), [-5, 1, 1])
        self.assertEqual(fault("tee a\n "), [-5, 1, 1])
        self.assertEqual(fault("tee a\n\x00"), [-5, 1, 1])
        self.assertEqual(fault("\n"), [-5, 1, 0])
        self.assertEqual(fault("tee a\n\n"), [-5, 1, 1])

    def test_a_fault_above_comes_before_the_bytes_behind(self):
        self.assertEqual(fault("tee a\ntee a\ntee b"), [-5, 2, 1])


def many(word, count, first=0, rest=""):
    return "".join(f"{word} {word[0]}{number}{rest}\n" for number in range(first, first + count))


class OtherKinds(unittest.TestCase):
    def test_names_stand_once_whatever_the_sort(self):
        above = "product x 1\nproduct y 1\napart n x y\ntee a\ntee b\npipe p a b 1 warm\nvalve v a b\n"
        for name in ("x", "n", "a", "p", "v"):
            with self.subTest(name=name):
                self.assertEqual(fault(above + f"tee {name}\n"), [-5, 2, 7])
                self.assertEqual(fault(above + f"product {name} 1\n"), [-5, 2, 7])

    def test_one_too_many_products(self):
        self.assertEqual(fault(many("product", 6, rest=" 1")), [0])
        self.assertEqual(fault(many("product", 7, rest=" 1")), [-5, 3, 6])

    def test_one_too_many_aparts(self):
        products = many("product", 6, rest=" 1")
        pairs = [(a, b) for a in range(6) for b in range(a)]
        aparts = [f"apart a{k} p{a} p{b}\n" for k, (a, b) in enumerate(pairs)]
        self.assertEqual(fault(products + "".join(aparts[:8])), [0])
        self.assertEqual(fault(products + "".join(aparts[:9])), [-5, 3, 14])

    def test_one_too_many_nodes_of_all_kinds_together(self):
        nodes = many("vat", 5, rest=" 1") + many("out", 5) + many("drain", 4) + many("tee", 4)
        self.assertEqual(fault(nodes), [0])
        for line in ("vat n 1", "out n", "drain n", "tee n"):
            with self.subTest(line=line):
                self.assertEqual(fault(nodes + line + "\n"), [-5, 3, 18])

    def test_one_too_many_pipes(self):
        text = "tee a\ntee b\n"
        self.assertEqual(fault(text + many("pipe", 18, rest=" a b 1 warm")), [0])
        self.assertEqual(fault(text + many("pipe", 19, rest=" a b 1 warm")), [-5, 3, 20])

    def test_one_too_many_valves_of_both_kinds_together(self):
        text = "tee a\ntee b\ntee c\n" + many("valve", 5, rest=" a b") + many("three", 3, rest=" a b c")
        self.assertEqual(fault(text), [0])
        self.assertEqual(fault(text + "valve n a b\n"), [-5, 3, 11])
        self.assertEqual(fault(text + "three n a b c\n"), [-5, 3, 11])

    def test_a_full_sort_leaves_room_for_others(self):
        text = many("tee", 18) + many("pipe", 18, rest=" t0 t1 1 warm") + many("valve", 8, rest=" t0 t1")
        self.assertEqual(fault(text + "product n 1\n"), [0])

    def test_names_of_no_line_above(self):
        above = "product x 1\nproduct y 1\napart n x y\ntee a\nvat b 1\nout c\npipe p a b 1 warm\nvalve v a b\n"
        for line in ("apart m x z", "apart m z x", "apart m x a", "apart m x n", "pipe m a z 1 warm",
                     "pipe m z a 1 warm", "pipe m a x 1 warm", "pipe m a p 1 warm", "valve m a z", "valve m a v",
                     "valve m x a", "three m a b z", "three m a z b", "three m z a b", "three m a b x",
                     "apart m m x", "pipe m m a 1 warm"):
            with self.subTest(line=line):
                self.assertEqual(fault(above + line + "\n"), [-5, 4, 8])

    def test_what_is_named_stands_above_not_below(self):
        self.assertEqual(fault("tee a\npipe p a b 1 warm\ntee b\n"), [-5, 4, 1])

    def test_two_names_are_one(self):
        above = "product x 1\nproduct y 1\ntee a\ntee b\n"
        for line in ("apart m x x", "pipe m a a 1 warm", "valve m b b", "three m a a b", "three m a b a",
                     "three m b a a", "three m a a a"):
            with self.subTest(line=line):
                self.assertEqual(fault(above + line + "\n"), [-5, 5, 4])

    def test_told_apart_already(self):
        above = "product x 1\nproduct y 1\nproduct z 1\napart n x y\n"
        self.assertEqual(fault(above + "apart m x y\n"), [-5, 5, 4])
        self.assertEqual(fault(above + "apart m y x\n"), [-5, 5, 4])
        self.assertEqual(fault(above + "apart m y z\napart l z x\n"), [0])

    def test_pipes_and_valves_may_lie_side_by_side(self):
        self.assertEqual(fault("tee a\ntee b\npipe p a b 1 warm\npipe q a b 1 warm\nvalve v a b\nvalve w b a\n"), [0])


class OrderOfKinds(unittest.TestCase):
    full = many("product", 6, rest=" 1") + "tee a\n"

    def test_one_before_two(self):
        self.assertEqual(fault("tee a\ntee a a\n"), [-5, 1, 1])
        self.assertEqual(fault("tee a\nvat a 0\n"), [-5, 1, 1])

    def test_two_before_three(self):
        self.assertEqual(fault(self.full + "product p0 1\n"), [-5, 2, 7])

    def test_two_before_four_and_five(self):
        self.assertEqual(fault("tee a\npipe a a z 1 warm\n"), [-5, 2, 1])
        self.assertEqual(fault("tee a\npipe a a a 1 warm\n"), [-5, 2, 1])

    def test_three_before_four_and_five(self):
        text = "tee a\ntee b\n" + many("valve", 8, rest=" a b")
        self.assertEqual(fault(text + "valve n a z\n"), [-5, 3, 10])
        self.assertEqual(fault(text + "valve n a a\n"), [-5, 3, 10])

    def test_four_before_five(self):
        self.assertEqual(fault("tee a\nvalve n z z\n"), [-5, 4, 1])
        self.assertEqual(fault("tee a\nthree n a a z\n"), [-5, 4, 1])

    def test_the_first_faulty_line_is_told(self):
        self.assertEqual(fault("tee a\nvalve n a a\ntee a\nwhat\n"), [-5, 5, 1])


if __name__ == "__main__":
    unittest.main()
