"""[25]: how graphs are made soon: steps that tell one another, and traces that tell that there are too many."""

import random
import unittest
from unittest import mock

from hownarrow.errors import TooMany
from hownarrow.graphs import graph_of
from hownarrow.growing import BACK, INSTEAD, Growing
from hownarrow.pictures import first_picture, led
from hownarrow.traces import WAY, are_surely_more, colours_of, trace_of
from tests import plain, trees

SPOT = (0, 0, 0, 0)
# GRAPHS that are too great: of 4,152 PICTURES, and of 25,920.
JUST_BEYOND = (5, 1, (None, 4, 3, 1, None), (2, 0, None, 4, None), (), ())
WELL_BEYOND = (4, 1, (3, 0, 1, 2), (0, 3, None, 2), (), (((1, 0, 0), "side"),))
# Some hundred PICTURES, up to 3,996.
GREAT = ((trees.LATE, SPOT), (trees.LATER, SPOT), (trees.NEARLY, SPOT))


def some_graphs(many, seed, most=5, marks=2):
    """(TABLE, SPOT, ROWS) for TABLES whose GRAPH has from 2 to 1,500 ROWS, made the plain way."""
    rng = random.Random(seed)
    found = []
    for table in plain.tables(many, seed=seed, most=most, marks=marks):
        label = rng.choice(plain.all_labels(table))
        rows = trees.graph(table, label, most=1500)
        if rows is not None:
            found.append((table, label, rows))
    return found


class TestTooMany(unittest.TestCase):
    def test_just_and_well_beyond(self):
        for table in (JUST_BEYOND, WELL_BEYOND):
            with self.assertRaises(TooMany) as caught:
                graph_of(table, SPOT)
            self.assertEqual(caught.exception.most, 4000)

    def test_there_are_more(self):
        self.assertIsNone(trees.graph(JUST_BEYOND, SPOT, most=4000))
        self.assertEqual(len(trees.graph(JUST_BEYOND, SPOT)), 4152)
        self.assertIsNone(trees.graph(WELL_BEYOND, SPOT, most=4000))

    def test_wherever_it_is_asked(self):
        # The traces are asked for once; whenever this is, the GRAPH and the error are the same.
        graphs = some_graphs(12, 151, most=4)
        for asked_at in (1, 2, 7, 50):
            with mock.patch("hownarrow.growing.ASKED_AT", asked_at):
                for table, label, rows in graphs:
                    self.assertEqual(graph_of(table, label), rows)
                for table in (JUST_BEYOND, WELL_BEYOND, trees.BEYOND, trees.FAR_BEYOND):
                    with self.assertRaises(TooMany) as caught:
                        graph_of(table, SPOT)
                    self.assertEqual(caught.exception.most, 4000)

    def test_just_as_many_as_the_bound(self):
        for table, label, rows in some_graphs(30, 152):
            many = len(rows)
            for asked_at in (1, 400):
                with mock.patch("hownarrow.growing.ASKED_AT", asked_at):
                    with mock.patch("hownarrow.graphs.MOST", many):
                        self.assertEqual(graph_of(table, label), rows)
                    if many > 1:
                        with mock.patch("hownarrow.graphs.MOST", many - 1):
                            with self.assertRaises(TooMany) as caught:
                                graph_of(table, label)
                            self.assertEqual(caught.exception.most, many - 1)


class TestRowByRow(unittest.TestCase):
    def test_many_tables(self):
        graphs = some_graphs(150, 153)
        self.assertTrue(len(graphs) > 120)
        for table, label, rows in graphs:
            self.assertEqual(graph_of(table, label), rows)

    def test_great_ones(self):
        for table, label in GREAT:
            rows = trees.graph(table, label)
            self.assertTrue(400 < len(rows) <= 4000)
            self.assertEqual(graph_of(table, label), rows)

    def test_with_many_marks(self):
        for table, label, rows in some_graphs(40, 154, most=3, marks=4):
            self.assertEqual(graph_of(table, label), rows)


class TestSteps(unittest.TestCase):
    def test_each_way_leads_where_the_letter_does(self):
        for _, _, rows in some_graphs(60, 155, most=4):
            steps = {"l": [row[1] for row in rows], "r": [row[2] for row in rows]}
            for letter, back in BACK.items():
                steps[back] = [steps[letter].index(at) for at in range(len(rows))]
            for letter in "lr":
                for way in INSTEAD[letter]:
                    for at in range(len(rows)):
                        here = at
                        for step in way:
                            here = steps[step][here]
                        self.assertEqual(here, steps[letter][at])

    def test_in_any_order(self):
        # Asked for in any order, each letter leads to the PICTURE that led makes.
        rng = random.Random(1)
        for table, label, rows in some_graphs(25, 156, most=4):
            growing = Growing(first_picture(table, label), len(rows))
            for _ in range(4 * len(rows)):
                place, letter = rng.randrange(len(growing.pictures)), rng.choice("lr")
                there = growing.pictures[growing.led_to(place, letter)]
                self.assertEqual(there, led(growing.pictures[place], letter))
            self.assertEqual(len(set(growing.pictures)), len(growing.pictures))
            self.assertTrue(set(growing.pictures) <= {row[0] for row in rows})


class TestTraces(unittest.TestCase):
    def test_never_more_than_there_are(self):
        for table, label, rows in some_graphs(60, 157):
            self.assertIs(are_surely_more(rows[0][0], len(rows)), False)
            self.assertIs(are_surely_more(rows[0][0], 4000), False)

    def test_equal_pictures_have_equal_traces(self):
        # The names of the integers in between do not matter, as colours go with them.
        for table, label, rows in some_graphs(12, 158, most=4):
            first = rows[0][0]
            colours = colours_of(first)
            told = {}
            waiting = [(first[0], first[1], 0, "")]
            while waiting:
                sides, ups, at, word = waiting.pop()
                trace = trace_of((sides, ups), colours, WAY)
                self.assertEqual(told.setdefault(at, trace), trace)
                if len(word) < 7:
                    waiting.append((sides, tuple([ups[one] for one in sides]), rows[at][1], word + "l"))
                    waiting.append((tuple([sides[one] for one in ups]), ups, rows[at][2], word + "r"))

    def test_where_it_is_seen(self):
        for table in (WELL_BEYOND, trees.FAR_BEYOND, JUST_BEYOND):
            self.assertIs(are_surely_more(first_picture(table, SPOT), 4000), True)

    def test_the_way(self):
        self.assertEqual(set(WAY), {"s", "u"})
        self.assertEqual(trace_of(((1, 0), (0, 1)), [7, 9], "susu"), (9, 9, 7, 7))


if __name__ == "__main__":
    unittest.main()
