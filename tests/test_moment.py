"""A plant at one moment: what films and set pipes join, where they are, what they want; that it stays as it is."""

import unittest

from cacaoworks.flows import flow_refusal, flowed, kilos_wanted, unfilled
from cacaoworks.joins import joined_nodes, joined_pipes, joined_products, met_at
from cacaoworks.layout import read_layout
from cacaoworks.moment import EMPTY, FILM, FULL, SETTLED, beginning, brought, lined_up, turned
from cacaoworks.plans import Lineups, count_reached, find_plan

TEXT = (
    b"product x 5\nproduct y 5\napart n x y\nvat a 9\ntee s\ntee t\nvat b 9\nout o\n"
    b"pipe p s t 2 cold\npipe q t o 1 cold\nvalve va a s\nvalve vb b t\n"
)


def with_pipes(*contents):
    """The plant of the text at its beginning, but with these contents of its pipes."""
    moment = beginning(read_layout(list(TEXT)))
    moment.pipes = contents
    moment.clock = 7
    return moment


def open_up(moment, *valves):
    for valve in valves:
        moment = lined_up(moment, turned(moment.positions, valve))
    return moment


class SetPipes(unittest.TestCase):
    moment = with_pipes((SETTLED, 0, 0), (EMPTY, 0, 0))

    def test_they_join_nothing(self):
        self.assertEqual(joined_nodes(self.moment, 1), [1])
        self.assertEqual(joined_nodes(self.moment, 2), [2, 4])

    def test_they_are_not_joined_and_want_nothing(self):
        self.assertEqual(joined_pipes(self.moment, 1), [])
        self.assertEqual(joined_pipes(self.moment, 2), [1])

    def test_their_product_is_at_both_ends(self):
        self.assertEqual([joined_products(self.moment, node) for node in range(5)], [[], [0], [0], [], [0]])

    def test_it_meets_at_the_other_end_too(self):
        moment = brought(self.moment, 3, 1, 4)
        self.assertEqual(met_at(moment), [])
        self.assertEqual(met_at(open_up(moment, 1)), [0])
        self.assertEqual(met_at(open_up(brought(self.moment, 0, 1, 4), 0)), [0])
        self.assertEqual(count_reached(Lineups(moment)), 2)
        self.assertIsNone(find_plan(Lineups(moment), [[("at", 1, 1)]], None))

    def test_they_do_not_stand_against_a_flow(self):
        moment = open_up(brought(self.moment, 3, 0, 4), 1)
        self.assertEqual(flow_refusal(moment, 4, 3, 4), 0)
        moment = flowed(moment, 4, 3, 4)
        self.assertEqual(moment.pipes, ((SETTLED, 0, 0), (FULL, 0, 7)))
        self.assertEqual(moment.held[4], (3, 0))
        self.assertEqual(moment.held[3], (0, 0))


class Films(unittest.TestCase):
    moment = with_pipes((FILM, 0, 0), (FULL, 0, 3))

    def test_they_join(self):
        self.assertEqual(joined_nodes(self.moment, 1), [1, 2, 4])

    def test_they_are_something(self):
        self.assertEqual(joined_products(self.moment, 1), [0])
        self.assertEqual(met_at(open_up(brought(self.moment, 3, 1, 4), 1)), [0])

    def test_they_want_all_their_kilos(self):
        self.assertEqual(unfilled(self.moment, [0, 1]), [0])
        self.assertEqual(kilos_wanted(self.moment, [0, 1]), 2)

    def test_another_products_film_stands_against_a_flow(self):
        moment = open_up(brought(with_pipes((FILM, 1, 0), (EMPTY, 0, 0)), 0, 0, 9), 0)
        self.assertEqual(flow_refusal(moment, 5, 0, 4), -6)
        moment = open_up(brought(self.moment, 0, 0, 9), 0)
        self.assertEqual(flow_refusal(moment, 5, 0, 4), 0)

    def test_full_pipes_are_full_since_now(self):
        moment = flowed(open_up(brought(self.moment, 0, 0, 9), 0), 5, 0, 4)
        self.assertEqual(moment.pipes, ((FULL, 0, 7), (FULL, 0, 7)))
        self.assertEqual(moment.held, ((4, 0), (0, 0), (0, 0), (0, 0), (3, 0)))
        self.assertEqual(moment.positions, (1, 0))


class Moments(unittest.TestCase):
    def test_a_change_makes_another(self):
        moment = brought(with_pipes((EMPTY, 0, 0), (EMPTY, 0, 0)), 0, 0, 9)
        moment = open_up(moment, 0)
        flowed(moment, 9, 0, 4)
        self.assertEqual(moment.pipes, ((EMPTY, 0, 0), (EMPTY, 0, 0)))
        self.assertEqual(moment.held[0], (9, 0))
        self.assertEqual(moment.held[4], (0, 0))


if __name__ == "__main__":
    unittest.main()
