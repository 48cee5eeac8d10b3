"""[19]: which POINTS are FREE, which are HOLES, and where a ball falls."""

import unittest

from hownarrow.points import falls_at, falls_of, holes_of, is_free, is_kept, kept_labels, quarters_many
from tests import plain
from tests.plain import AGAINST, BENT, BOX, ENDING, SQUARE, TORUS, TWO, WITH


class TestPoints(unittest.TestCase):
    def test_kept(self):
        for table in plain.tables(80):
            good = plain.kept(table)
            self.assertEqual(kept_labels(table), tuple(sorted(good)))
            for label in plain.all_labels(table):
                self.assertIs(is_kept(table, label), label in good)

    def test_which_of_two_labels_is_kept(self):
        # j may be led to the same LABEL while k, j's own name, is not: the LABEL at the end counts.
        self.assertEqual([label for label in plain.all_labels(BENT) if not is_kept(BENT, label)],
                         [(0, 1, 1, 0), (1, 0, 1, 0), (2, 1, 0, 0)])
        self.assertEqual(len(kept_labels(BENT)), 9)

    def test_quarters_in_the_plane(self):
        self.assertEqual(quarters_many(BOX, (0, 1, 1)), 1)
        self.assertEqual(quarters_many(TWO, (0, 1, 1)), 2)
        self.assertEqual(quarters_many(TWO, (1, 0, 1)), 2)
        self.assertEqual(quarters_many(BENT, (2, 1, 0)), 3)
        self.assertEqual(quarters_many(SQUARE, (0, 1, 1)), 4)
        self.assertEqual(quarters_many(ENDING, (3, 0, 0)), 4)
        self.assertEqual(quarters_many(TORUS, (0, 1, 0)), 4)
        for table in plain.tables(30):
            for corner in plain.all_corners(table):
                self.assertEqual(quarters_many(table, corner), len(plain.point(table, corner)))

    def test_holes_in_the_plane(self):
        self.assertEqual(holes_of(BOX), ())
        self.assertEqual(holes_of(SQUARE), ())
        self.assertEqual(holes_of(BENT), ((0, 1, 1),))
        self.assertEqual(holes_of(ENDING), ((0, 1, 1),))
        self.assertEqual(falls_of(ENDING), {(0, 1, 1): ""})
        for corner in ((0, 1, 1), (1, 0, 1), (2, 1, 0), (3, 0, 0)):
            self.assertIs(is_free(ENDING, corner), False)
            self.assertIs(is_free(SQUARE, corner), True)
        for corner in ((2, 1, 1), (3, 0, 1), (1, 1, 1), (0, 0, 0)):
            self.assertIs(is_free(ENDING, corner), True)

    def test_dials_that_commute_and_dials_that_do_not(self):
        self.assertEqual(holes_of(WITH), ())
        self.assertEqual(holes_of(AGAINST), ((0, 1, 1),))
        self.assertIs(is_free(WITH, (3, 0, 0)), True)
        self.assertIs(is_free(AGAINST, (3, 0, 0)), False)
        corner = (1, 3, (None,), (None,), ((("right", 0), (1, 0, 2)), (("up", 0), (0, 2, 1))), ())
        self.assertEqual(holes_of(corner), ((0, 1, 1),))
        corner = (1, 4, (None,), (None,), ((("right", 0), (1, 0, 2, 3)), (("up", 0), (0, 1, 3, 2))), ())
        self.assertEqual(holes_of(corner), ())

    def test_one_mark_is_enough_for_a_hole(self):
        # Some LABELS are KEPT at this POINT, and some are not.
        table = (1, 4, (None,), (None,), ((("right", 0), (1, 0, 2, 3)), (("up", 0), (0, 2, 1, 3))), ())
        at = [label for label in plain.all_labels(table) if label[:3] == (0, 1, 1)]
        self.assertEqual([is_kept(table, label) for label in at], [False, False, False, True])
        self.assertIs(is_free(table, (0, 1, 1)), False)
        self.assertEqual(holes_of(table), ((0, 1, 1),))

    def test_where_a_ball_falls(self):
        for table in plain.tables(100):
            falls = plain.falls(table)
            found = falls_of(table)
            self.assertEqual(found, falls)
            self.assertEqual(list(found), sorted(found))
            good = plain.kept(table)
            holes = []
            for point in plain.points(table):
                free = all(corner + (mark,) in good for corner in point for mark in range(table[1]))
                holes.extend([] if free else [point[0]])
                for corner in point:
                    self.assertIs(is_free(table, corner), free)
                    self.assertEqual(falls_at(table, corner), falls.get(point[0]))
            self.assertEqual(holes_of(table), tuple(holes))

    def test_a_hole_with_a_pocket(self):
        table = BENT[:5] + ((((0, 0, 0), "a"), ((0, 1, 1), "b")),)
        self.assertEqual(holes_of(table), ((0, 1, 1),))
        self.assertEqual(falls_of(table), {(0, 0, 0): "a", (0, 1, 1): "b"})
        self.assertEqual([falls_at(table, corner) for corner in ((2, 1, 0), (0, 0, 0), (1, 0, 0))], ["b", "a", None])
        self.assertIs(is_free(table, (0, 0, 0)), True)

    def test_what_is_returned_is_new(self):
        found = falls_of(BENT)
        found.clear()
        self.assertEqual(falls_of(BENT), {(0, 1, 1): ""})


if __name__ == "__main__":
    unittest.main()
