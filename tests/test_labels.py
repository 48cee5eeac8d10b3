"""[16]: LABELS, and the ways over one edge."""

import unittest

from hownarrow.labels import about, from_sideways, from_up, labels_of, sideways, up
from tests import plain
from tests.plain import BOX, DIAL, PAIR, SEVERAL, STRIP, TORUS


class TestLabels(unittest.TestCase):
    def test_labels_of(self):
        self.assertEqual(labels_of(BOX), ((0, 0, 0, 0), (0, 0, 1, 0), (0, 1, 0, 0), (0, 1, 1, 0)))
        for table in plain.tables(60):
            self.assertEqual(labels_of(table), tuple(plain.all_labels(table)))
            self.assertEqual(list(labels_of(table)), sorted(labels_of(table)))

    def test_over_cushions(self):
        self.assertEqual([sideways(BOX, label) for label in labels_of(BOX)],
                         [(0, 1, 0, 0), (0, 1, 1, 0), (0, 0, 0, 0), (0, 0, 1, 0)])
        self.assertEqual([up(BOX, label) for label in labels_of(BOX)],
                         [(0, 0, 1, 0), (0, 0, 0, 0), (0, 1, 1, 0), (0, 1, 0, 0)])

    def test_over_joints_and_gates(self):
        self.assertEqual(sideways(PAIR, (0, 0, 0, 0)), (1, 0, 0, 1))
        self.assertEqual(sideways(PAIR, (1, 1, 0, 1)), (0, 1, 0, 0))
        self.assertEqual(sideways(PAIR, (1, 0, 0, 1)), (1, 1, 0, 1))
        self.assertEqual([sideways(STRIP, label) for label in labels_of(STRIP)], list(labels_of(STRIP)))
        self.assertEqual([up(TORUS, label) for label in labels_of(TORUS)], list(labels_of(TORUS)))
        self.assertEqual(up(SEVERAL, (2, 1, 0, 2)), (3, 1, 0, 1))
        self.assertEqual(up(SEVERAL, (3, 1, 1, 2)), (2, 1, 1, 1))

    def test_dials_turn_alike_from_both_sides(self):
        self.assertEqual([sideways(DIAL, (0, 0, 1, mark)) for mark in (0, 1)], [(0, 1, 1, 1), (0, 1, 1, 0)])
        ring = (2, 3, (1, None), (None, None), ((("right", 0), (1, 2, 0)),), ())
        self.assertEqual([sideways(ring, (0, 0, 0, mark))[3] for mark in range(3)], [1, 2, 0])
        self.assertEqual([sideways(ring, (1, 1, 0, mark))[3] for mark in range(3)], [1, 2, 0])
        self.assertEqual([from_sideways(ring, (1, 0, 0, mark)) for mark in range(3)],
                         [(0, 0, 0, 2), (0, 0, 0, 0), (0, 0, 0, 1)])
        self.assertEqual([from_sideways(ring, (0, 1, 0, mark)) for mark in range(3)],
                         [(1, 1, 0, 2), (1, 1, 0, 0), (1, 1, 0, 1)])
        edge = (1, 3, (None,), (None,), ((("down", 0), (1, 2, 0)),), ())
        self.assertEqual([from_up(edge, (0, 0, 0, mark)) for mark in range(3)],
                         [(0, 0, 1, 2), (0, 0, 1, 0), (0, 0, 1, 1)])
        self.assertEqual(from_up(edge, (0, 0, 1, 2)), (0, 0, 0, 2))

    def test_all_ways(self):
        for table in plain.tables(100):
            for label in plain.all_labels(table):
                aside, over = plain.go(table, label, False), plain.go(table, label, True)
                self.assertEqual(sideways(table, label), aside)
                self.assertEqual(up(table, label), over)
                self.assertEqual(from_sideways(table, aside), label)
                self.assertEqual(from_up(table, over), label)

    def test_each_way_back_undoes_its_way(self):
        for table in plain.tables(40, seed=21):
            for label in labels_of(table):
                self.assertEqual(sideways(table, from_sideways(table, label)), label)
                self.assertEqual(up(table, from_up(table, label)), label)

    def test_about(self):
        self.assertEqual(about((3, 0, 1, 2)), (3, 1, 0, 2))
        self.assertEqual(about((0, 1, 1, 0)), (0, 0, 0, 0))
        for label in labels_of(SEVERAL):
            cell, x, y, mark = label
            self.assertEqual(about(label), (cell, 1 - x, 1 - y, mark))


if __name__ == "__main__":
    unittest.main()
