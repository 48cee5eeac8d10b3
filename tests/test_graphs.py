"""[25] and [6]: graphs of all PICTURES."""

import random
import unittest
from unittest import mock

from hownarrow.errors import TooMany
from hownarrow.forms import is_picture
from hownarrow.graphs import graph_of, row_at, way_back, word_to
from hownarrow.pictures import picture_at
from tests import plain, trees
from tests.plain import AGAINST, BOX, DIAL, ELL, ONE, PAIR, STRIP, TORUS

SPOT = (0, 0, 0, 0)


def small_graphs(many, seed):
    """(TABLE, SPOT, GRAPH) for TABLES whose graph the plain way makes soon."""
    rng = random.Random(seed)
    found = []
    for table in plain.tables(many, seed=seed, most=4, marks=2):
        label = rng.choice(plain.all_labels(table))
        rows = trees.graph(table, label, most=500)
        if rows is not None:
            found.append((table, label, rows))
    return found


class TestGraphOf(unittest.TestCase):
    def test_one_row(self):
        self.assertEqual(graph_of(TORUS, SPOT), ((((0,), (0,), (None,)), 0, 0),))
        self.assertEqual(graph_of(ONE, SPOT), ((((1, 0, 3, 2), (2, 3, 0, 1), (None,) * 4), 0, 0),))

    def test_some(self):
        self.assertEqual(graph_of(STRIP, SPOT), (
            (((0, 1), (1, 0), (None, None)), 0, 1), (((1, 0), (1, 0), (None, None)), 2, 0),
            (((1, 0), (0, 1), (None, None)), 1, 2),
        ))
        self.assertEqual([row[1:] for row in graph_of(BOX, SPOT)], [(1, 2), (0, 3), (4, 0), (5, 1), (2, 5), (3, 4)])
        self.assertEqual([len(graph_of(table, SPOT)) for table in (BOX, DIAL, ELL, PAIR)], [6, 24, 18, 3])

    def test_row_by_row(self):
        graphs = small_graphs(60, 51)
        self.assertTrue(len(graphs) > 40)
        for table, label, rows in graphs:
            graph = graph_of(table, label)
            self.assertIsInstance(graph, tuple)
            self.assertTrue(all(type(row) is tuple for row in graph))
            self.assertEqual(graph, rows)

    def test_each_word_leads_to_its_picture(self):
        rng = random.Random(1)
        for table, label, rows in small_graphs(20, 52):
            graph = graph_of(table, label)
            for word in trees.words(4):
                self.assertEqual(graph[row_at(graph, word)][0], trees.picture(table, label, word))
            for _ in range(3):
                word = "".join([rng.choice("lr") for _ in range(200)])
                self.assertEqual(graph[row_at(graph, word)][0], picture_at(table, label, word))

    def test_what_all_graphs_are_like(self):
        rng = random.Random(2)
        for table in plain.tables(60, seed=53) + [trees.NEARLY]:
            label = SPOT if table == trees.NEARLY else rng.choice(plain.all_labels(table))
            try:
                graph = graph_of(table, label)
            except TooMany:
                continue
            many = len(graph)
            self.assertTrue(all(is_picture(row[0]) for row in graph))
            self.assertEqual(len({row[0] for row in graph}), many)
            # Letters are one to one on the ROWS [10].
            for at in (1, 2):
                self.assertEqual(sorted(row[at] for row in graph), list(range(many)))
            met = [0]
            for row in graph:
                for there in row[1:]:
                    if there > met[-1]:
                        met.append(there)
            self.assertEqual(met, list(range(many)))

    def test_too_many(self):
        for table in (trees.BEYOND, trees.FAR_BEYOND, trees.LONG_ROUND):
            with self.assertRaises(TooMany) as caught:
                graph_of(table, SPOT)
            self.assertEqual(caught.exception.most, 4000)
        self.assertEqual(len(graph_of(trees.NEARLY, SPOT)), 3996)
        self.assertIsNone(trees.graph(trees.BEYOND, SPOT, most=4000))

    def test_just_as_many(self):
        # The bound is 4,000; here it is drawn nearer, to see what is on it and what is beyond it.
        many = len(graph_of(AGAINST, SPOT))
        with mock.patch("hownarrow.graphs.MOST", many):
            self.assertEqual(len(graph_of(AGAINST, SPOT)), many)
        with mock.patch("hownarrow.graphs.MOST", many - 1):
            with self.assertRaises(TooMany):
                graph_of(AGAINST, SPOT)


class TestWords(unittest.TestCase):
    def test_row_at(self):
        graph = graph_of(ELL, SPOT)
        self.assertEqual([row_at(graph, word) for word in ("", "l", "r", "lr")], [0, 1, 2, 4])
        for word in trees.words(7):
            self.assertEqual(row_at(graph, word), trees.go_along(graph, 0, word))

    def test_the_first_row(self):
        for table in (TORUS, BOX, ELL):
            graph = graph_of(table, SPOT)
            self.assertEqual((word_to(graph, 0), way_back(graph, 0)), ("", ""))

    def test_some(self):
        graph = graph_of(BOX, SPOT)
        self.assertEqual([word_to(graph, at) for at in range(6)], ["", "l", "r", "lr", "rl", "lrl"])
        self.assertEqual([way_back(graph, at) for at in range(6)], ["", "l", "r", "rl", "lr", "lrl"])

    def test_of_several_the_least(self):
        found = 0
        for table, label, rows in small_graphs(40, 54):
            if len(rows) > 120:
                continue
            graph = graph_of(table, label)
            left = set(range(len(rows)))
            # Words in order, shorter ones first: the first that leads to a ROW is the one.
            level = [("", 0)]
            while left and level:
                for word, at in level:
                    if at in left:
                        left.discard(at)
                        self.assertEqual(word_to(graph, at), word)
                        found += 1
                level = sorted([(word + letter, rows[at]["_lr".index(letter)]) for word, at in level
                                for letter in "lr"])
                if len(level) > 4096:
                    break
        self.assertTrue(found > 500)

    def test_there_and_back(self):
        rng = random.Random(3)
        graphs = [graph_of(table, label) for table, label, _ in small_graphs(30, 55)]
        for graph in graphs + [graph_of(trees.NEARLY, SPOT)]:
            indexes = list(range(len(graph))) if len(graph) < 50 else rng.sample(range(len(graph)), 12)
            for index in indexes:
                there, back = word_to(graph, index), way_back(graph, index)
                self.assertEqual(trees.go_along(graph, 0, there), index)
                self.assertEqual(trees.go_along(graph, index, back), 0)
                self.assertEqual(there, trees.least_way(graph, 0, [index]))
                self.assertEqual(back, trees.least_way(graph, index, [0]))


if __name__ == "__main__":
    unittest.main()
