"""[33]: ROWS and STRIPS."""

import random
import unittest

from hownarrow.labels import labels_of
from hownarrow.otherwise import mirrored, renamed
from hownarrow.points import holes_of
from hownarrow.strips import above, row_above, row_of, rows_of, strips_of
from tests import lines, plain, trees
from tests.plain import AGAINST, BENT, BOX, DIAL, ENDING, ONE, PAIR, SEVERAL, SQUARE, STRIP, TORUS, WITH

SPOT = (0, 0, 0, 0)
SLOPES = ((1, 1), (1, 2), (2, 1), (1, 5), (3, 2), (5, 3), (4, 1))


class TestAbove(unittest.TestCase):
    def test_some(self):
        self.assertEqual([above(BENT, SPOT, (1, 1)), above(BENT, SPOT, (2, 1))], [(2, 1, 0, 0), (1, 1, 1, 0)])
        # About a HOLE both sides of the line lead elsewhere; without one they do not.
        self.assertEqual([above(ONE, SPOT, (1, 1)), above(TORUS, SPOT, (3, 5))], [(0, 1, 1, 0), SPOT])

    def test_against_plain_lines(self):
        rng = random.Random(1)
        for table in plain.tables(40, seed=191):
            for slope in SLOPES:
                for label in rng.sample(plain.all_labels(table), min(6, len(plain.all_labels(table)))):
                    self.assertEqual(above(table, label, slope), lines.above(table, label, slope))

    def test_long_lines(self):
        rng = random.Random(2)
        for table in (SEVERAL, WITH, ENDING, DIAL):
            for slope in ((4000, 3999), (1, 7999), (7999, 1), (4181, 2584), (3, 4000)):
                label = rng.choice(plain.all_labels(table))
                self.assertEqual(above(table, label, slope), lines.above(table, label, slope))

    def test_one_to_one(self):
        for table in plain.tables(10, seed=192):
            for slope in ((1, 1), (3, 2), (2, 7)):
                self.assertEqual(len({above(table, label, slope) for label in labels_of(table)}), len(labels_of(table)))


class TestRows(unittest.TestCase):
    def test_some(self):
        self.assertEqual(row_of(BENT, (2, 1, 0, 0), (1, 2)), ((0, 0, 1, 0), (2, 1, 0, 0)))
        self.assertEqual(rows_of(BENT, (1, 2))[:2], (((0, 0, 0, 0), (2, 1, 1, 0)), ((0, 0, 1, 0), (2, 1, 0, 0))))
        self.assertEqual(rows_of(TORUS, (3, 7)), tuple([(label,) for label in labels_of(TORUS)]))

    def test_each_label_in_just_one(self):
        for table in plain.tables(40, seed=193):
            for slope in SLOPES:
                rows = rows_of(table, slope)
                self.assertEqual(rows, tuple(sorted(rows)))
                self.assertEqual(sorted([label for row in rows for label in row]), list(labels_of(table)))
                self.assertTrue(all(row[0] == min(row) for row in rows))

    def test_against_plain_rows(self):
        for table in plain.tables(20, seed=194, most=5, marks=3):
            for slope in SLOPES:
                rows = lines.rows(table, slope)
                self.assertEqual(rows_of(table, slope), rows)
                for row in rows:
                    for label in row:
                        self.assertEqual(row_of(table, label, slope), row)


class TestRowAbove(unittest.TestCase):
    def test_some(self):
        row = ((0, 0, 1, 0), (2, 1, 0, 0))
        self.assertEqual(row_above(BENT, (1, 2), row), ((0, 0, 0, 0), (2, 1, 1, 0)))
        self.assertIsNone(row_above(BENT, (1, 2), ((0, 0, 0, 0), (2, 1, 1, 0))))

    def test_against_plain_rows(self):
        is_open = shut = 0
        for table in plain.tables(25, seed=195, most=5, marks=3):
            for slope in SLOPES:
                for row in rows_of(table, slope):
                    told = row_above(table, slope, row)
                    self.assertEqual(told, lines.row_above(table, slope, row))
                    is_open += told is not None
                    shut += told is None
        self.assertTrue(is_open > 200 and shut > 200)

    def test_where_the_second_neighbour_is_upright(self):
        # Of (1, 1), (1, 2), (1, 3) and so on it is (0, 1): one goes UP, and no STRETCH.
        for table in (BENT, SQUARE, ENDING, AGAINST, WITH, PAIR, SEVERAL):
            for slope in ((1, 1), (1, 2), (1, 3), (1, 40)):
                self.assertEqual(trees.below(trees.words_to(sum(slope))[slope])[1], (0, 1))
                for row in rows_of(table, slope):
                    self.assertEqual(row_above(table, slope, row), lines.row_above(table, slope, row))

    def test_a_hole_and_none(self):
        # A wall that ends makes a HOLE of its end: the line that meets it is not open.
        self.assertTrue(holes_of(ENDING) and not holes_of(SQUARE))
        for slope in SLOPES:
            self.assertTrue(all(row_above(SQUARE, slope, row) for row in rows_of(SQUARE, slope)))
            self.assertTrue(any(row_above(ENDING, slope, row) is None for row in rows_of(ENDING, slope)))
        # Dials that commute leave the POINT FREE, others make a HOLE of it.
        self.assertTrue(holes_of(AGAINST) and not holes_of(WITH))
        self.assertTrue(all(row_above(WITH, (2, 1), row) for row in rows_of(WITH, (2, 1))))
        self.assertTrue(any(row_above(AGAINST, (2, 1), row) is None for row in rows_of(AGAINST, (2, 1))))

    def test_pockets_are_no_holes(self):
        self.assertEqual([row_above(BOX, (1, 1), row) for row in rows_of(BOX, (1, 1))],
                         [row_above(ONE, (1, 1), row) for row in rows_of(ONE, (1, 1))])

    def test_above_just_one_and_of_as_many(self):
        for table in plain.tables(20, seed=196):
            for slope in SLOPES:
                told = [(row, row_above(table, slope, row)) for row in rows_of(table, slope)]
                there = [beyond for _, beyond in told if beyond is not None]
                self.assertEqual(len(set(there)), len(there))
                self.assertTrue(all(len(row) == len(beyond) for row, beyond in told if beyond is not None))


class TestStrips(unittest.TestCase):
    def test_some(self):
        self.assertEqual([(many, len(rows), is_round) for many, rows, is_round in strips_of(BENT, (1, 2))],
                         [(2, 2, False), (4, 2, False)])
        self.assertEqual(strips_of(ONE, (1, 1)), (
            (2, (((0, 0, 0, 0), (0, 1, 1, 0)), ((0, 0, 1, 0), (0, 1, 0, 0))), True),))
        self.assertEqual(strips_of(TORUS, (1, 2)), tuple([(1, ((label,),), True) for label in labels_of(TORUS)]))

    def test_against_plain_strips(self):
        rounds = ends = 0
        for table in plain.tables(30, seed=197, most=5, marks=3) + list(plain.SAMPLES):
            for slope in SLOPES:
                told = strips_of(table, slope)
                self.assertEqual(told, lines.strips(table, slope))
                rounds += any(is_round and len(rows) > 1 for _, rows, is_round in told)
                ends += any(not is_round and len(rows) > 1 for _, rows, is_round in told)
                self.assertTrue(all(type(is_round) is bool for _, _, is_round in told))
        self.assertTrue(rounds > 50 and ends > 50)

    def test_each_row_in_just_one(self):
        for table in plain.tables(25, seed=198):
            for slope in SLOPES:
                strips = strips_of(table, slope)
                rows = [row for _, strip, _ in strips for row in strip]
                self.assertEqual(sorted(rows), list(rows_of(table, slope)))
                self.assertEqual(sum([many * len(strip) for many, strip, _ in strips]), len(labels_of(table)))
                for many, strip, _ in strips:
                    self.assertEqual({len(row) for row in strip}, {many})

    def test_order_and_first_rows(self):
        for table in plain.tables(25, seed=199):
            for slope in SLOPES:
                strips = strips_of(table, slope)
                least = [min(strip) for _, strip, _ in strips]
                self.assertEqual(least, sorted(least))
                for _, strip, is_round in strips:
                    beyond = [row_above(table, slope, row) for row in strip]
                    self.assertEqual(beyond, list(strip[1:]) + [strip[0] if is_round else None])
                    if is_round:
                        self.assertEqual(strip[0], min(strip))
                    else:
                        there = [row_above(table, slope, row) for row in rows_of(table, slope)]
                        self.assertNotIn(strip[0], there)

    def test_longest_slopes(self):
        for table in (SEVERAL, ENDING, DIAL):
            for slope in ((7999, 1), (1, 7999), (4181, 2584)):
                strips = strips_of(table, slope)
                self.assertEqual(sum([many * len(rows) for many, rows, _ in strips]), len(labels_of(table)))

    def test_without_holes_all_come_round(self):
        for table in (ONE, BOX, SQUARE, STRIP, TORUS, PAIR, WITH):
            for slope in SLOPES:
                self.assertTrue(all(is_round for _, _, is_round in strips_of(table, slope)))

    def test_renamed_and_mirrored(self):
        rng = random.Random(3)
        for table in plain.tables(20, seed=200, most=6, marks=2):
            order = list(range(table[0]))
            rng.shuffle(order)
            other = renamed(table, tuple(order))
            for slope in ((1, 2), (3, 2)):
                self.assertEqual(shapes(strips_of(other, slope)), shapes(strips_of(table, slope)))
                # Seen in a mirror the balls go on as they did, but about the other end of each edge.
                self.assertEqual(sorted([many for many, rows, _ in strips_of(mirrored(table, False), slope)
                                         for _ in rows]),
                                 sorted([many for many, rows, _ in strips_of(table, slope) for _ in rows]))


def shapes(strips):
    return sorted([(many, len(rows), is_round) for many, rows, is_round in strips])


if __name__ == "__main__":
    unittest.main()
