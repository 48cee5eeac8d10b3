"""[2] and [11]: what is what, of any value, and the CORNERS that are one."""

import random
import unittest

from hownarrow.errors import CueError, Wrong
from hownarrow.forms import (
    corners_at, is_corner, is_edge, is_end, is_integer, is_label, is_lot, is_name, is_outcome, is_permutation,
    is_picture, is_range, is_slope, is_table, is_wish, is_word,
)
from tests import judges, plain
from tests.plain import BENT, BOX, PAIR, TORUS, TWO

GREAT = 10 ** 39 + 7
LEAST_PICTURE = ((0,), (0,), (None,))
PICTURE = ((1, 0, 3, 2), (2, 3, 0, 1), (("home", 0), None, ("", 3), None))
WISH = (("", "a", "bc"), (0, 2), 1, 9, False)

# For each function: what it is, then what it is not.
CASES = (
    (is_integer, (0, 1, -1, GREAT, -GREAT), (True, False, None, "1", (1,), [1], 1.0, "")),
    (is_name, ("a", "z", "az", "abcdefghijkl", "m" * 12),
     ("", "A", "Z", "abcdefghijklm", "a b", "a1", " a", "a ", "a\n", "`", "{", "a`", "a{", "_", "\u00e9", "\u0430",
      ("a",), ["a"], None, 0, True, "a" * 3000)),
    (is_lot, ((), (0,), (0, 1), (0, 2, GREAT), (7,)),
     ([], [0], (1, 0), (0, 0), (-1,), (-1, 0), (True,), (0, True), (False, 1), (0, None), ("a",), "", None, {}, 0,
      (0, 1, 1), (0, (1,)))),
    (is_end, ((1, 0), (0, 1), (1, 1), (2, 3), (GREAT, 1), (GREAT, GREAT + 1)),
     ((0, 0), (2, 0), (0, 2), (2, 2), (2, 4), (GREAT, GREAT), (-1, 1), (1, -1), (-1, 0), (True, 1), (1, True),
      (True, False), [1, 0], (1,), (1, 0, 0), ("1", 0), None, (None, 1), "10", (1, (1,)))),
    (is_slope, ((1, 1), (2, 3), (GREAT, 1), (1, GREAT)),
     ((1, 0), (0, 1), (0, 0), (2, 2), (-1, 1), (1, -1), (-1, -1), (True, 1), (1, True), [1, 1], (1, 1, 1), (1,),
      None, (6, 9))),
    (is_range, (((1, 0), (0, 1)), ((1, 0), (GREAT, 1)), ((5, 2), (2, 1)), ((2, 1), (1, 1))),
     (((1, 1), (1, 1)), ((0, 1), (1, 0)), ((1, 1), (2, 1)), ((2, 2), (0, 1)), ((1, 0), (0, 2)), [(1, 0), (0, 1)],
      ([1, 0], (0, 1)), ((1, 0), [0, 1]), ((1, 0),), ((1, 0), (1, 1), (0, 1)), ((True, 0), (0, 1)), (), None,
      (1, 0), ("l", "r"))),
    (is_word, ("", "l", "r", "llr", "lr" * 1500),
     ("L", "R", "lx", "xl", " l", "l ", "l\n", "1", ("l",), ["l"], None, 0, True, ("l", "r"), "lr" * 1499 + "s")),
    (is_outcome, (("falls", "a", 0, 1), ("falls", "", 3, GREAT), ("round", 1), ("round", GREAT)),
     (("falls", "A", 0, 1), ("falls", "a", -1, 1), ("falls", "a", 0, 0), ("falls", "a", True, 1), ("round", 0),
      ("falls", "a", 0, True), ("round", True), ("round", -1), ["round", 1], ["falls", "a", 0, 1], ("fall", "a", 0, 1),
      ("falls", "a", 0), ("falls", "a", 0, 1, 1), ("round", 1, 1), ("round",), ("falls", 1), ("round", "a", 0, 1),
      (), ("rounds", 1), (None, 1), (["round"], 1), ("falls", None, 0, 1), ("falls", ("a",), 0, 1), None, "round")),
    (is_picture, (LEAST_PICTURE, PICTURE, ((0,), (0,), (("", 0),)), ((1, 0), (0, 1), (None, ("a", GREAT))),
                  ((0, 1), (1, 0), (None, None)), ((0, 2, 1), (1, 0, 2), (None,) * 3)),
     (((), (), ()), ((0, 1), (0, 1), (None, None)), ((0,), (0,), ()), ((0,), (0,), (None, None)),
      ((0,), (0, 1), (None,)), ((1, 0), (0, 1), (None,)), [(0,), (0,), (None,)], ([0], (0,), (None,)),
      ((0,), [0], (None,)), ((0,), (0,), [None]), ((False,), (0,), (None,)), ((0,), (False,), (None,)),
      ((0,), (0,), (["a", 0],)), ((0,), (0,), (("A", 0),)), ((0,), (0,), (("a", -1),)), ((0,), (0,), (("a", True),)),
      ((0,), (0,), (("a",),)), ((0,), (0,), (("a", 0, 0),)), ((0,), (0,), (0,)), ((0,), (0,), ("",)),
      ((2, 1, 0), (1, 0, 2), (None,) * 3), ((1, 0, 2), (0, 1, 2), (None,) * 3), ((0, 1, 2), (2, 1, 0), (None,) * 3),
      ((1, 1), (0, 1), (None, None)), ((1, 2), (0, 1), (None, None)), ((1, -1), (0, 1), (None, None)),
      ((2, 3, 0, 1), (1, 0, 3, 2), (None,) * 4), PICTURE + (0,), PICTURE[:2], None, (), ((0,), (0,)))),
    (is_wish, (WISH, ((), (), 1, 1, True), (("",), (0,), GREAT, GREAT, False), (("a", "b"), (), 2, 3, True)),
     ((("b", "a"), (0,), 1, 1, True), (("a", "a"), (0,), 1, 1, True), (("A",), (0,), 1, 1, True),
      (["a"], (0,), 1, 1, True), (("a",), [0], 1, 1, True), (("a",), (1, 0), 1, 1, True), (("a",), (-1,), 1, 1, True),
      (("a",), (0,), 0, 1, True), (("a",), (0,), 2, 1, True), (("a",), (0,), True, 1, True),
      (("a",), (0,), 1, True, True), (("a",), (0,), 1, 1, 1), (("a",), (0,), 1, 1, 0), (("a",), (0,), 1, 1, None),
      (("a",), (0,), 1, 1), (("a",), (0,), 1, 1, True, True), [("a",), (0,), 1, 1, True], ("a", (0,), 1, 1, True),
      ((None,), (0,), 1, 1, True), (("a", ""), (0,), 1, 1, True), (("a",), 0, 1, 1, True), None, (),
      (("a",), (0,), None, 1, True), (("a",), (0,), 1, None, True))),
)


class TestForms(unittest.TestCase):
    def test_what_is_and_what_is_not(self):
        for function, good, bad in CASES:
            for thing in good:
                self.assertIs(function(thing), True, (function, thing))
            for thing in bad:
                self.assertIs(function(thing), False, (function, str(thing)[:90]))

    def test_values_of_any_kind(self):
        judged = ((is_integer, lambda thing: type(thing) is int), (is_name, judges.name), (is_lot, judges.lot),
                  (is_end, judges.end), (is_slope, judges.slope), (is_range, judges.within), (is_word, judges.word),
                  (is_outcome, judges.outcome), (is_picture, judges.picture), (is_wish, judges.wish),
                  (is_table, lambda thing: judges.fault(thing) is None))
        things = plain.odd_values() + [CueError(), Wrong(1), (Wrong(1), 1), ("round", Wrong(1)), Wrong]
        for function, judge in judged:
            for thing in things:
                self.assertIs(function(thing), judge(thing), (function, str(thing)[:90]))

    def test_values_of_any_kind_beside_a_table(self):
        for table in plain.SAMPLES:
            for thing in plain.odd_values() + [Wrong(1), ("right", Wrong(1))]:
                self.assertIs(is_label(table, thing), judges.label(table, thing))
                self.assertIs(is_corner(table, thing), judges.corner(table[0], thing))
                self.assertIs(is_edge(table, thing), judges.edge(table, thing))
        for many in (1, 2, 3, 3000, GREAT):
            for thing in plain.odd_values():
                self.assertIs(is_permutation(many, thing), judges.permutation(many, thing))

    def test_values_with_one_thing_otherwise(self):
        rng = random.Random(11)
        starts = ((is_lot, judges.lot, ((0, 1, 5), (3,))), (is_end, judges.end, ((1, 0), (7, 3))),
                  (is_slope, judges.slope, ((1, 1), (7, 3))), (is_range, judges.within, (((2, 1), (1, 2)),)),
                  (is_outcome, judges.outcome, (("falls", "a", 0, 1), ("falls", "", 2, 7), ("round", 3))),
                  (is_picture, judges.picture, (PICTURE, LEAST_PICTURE)), (is_wish, judges.wish, (WISH,)))
        for function, judge, things in starts:
            seen = set()
            for thing in things:
                self.assertIs(function(thing), True)
                for _ in range(1500):
                    one = judges.otherwise(rng, thing)
                    if rng.random() < 0.3:
                        one = judges.otherwise(rng, one)
                    seen.add(judge(one))
                    self.assertIs(function(one), judge(one), (function, one))
            self.assertEqual(seen, {True, False}, function)

    def test_permutations(self):
        for many, thing in ((1, (0,)), (2, (1, 0)), (4, (2, 0, 3, 1)), (3000, tuple(range(3000))[::-1])):
            self.assertIs(is_permutation(many, thing), True)
            self.assertIs(is_permutation(many + 1, thing), False)
            self.assertIs(is_permutation(many, list(thing)), False)
            self.assertIs(is_permutation(many, thing + (many,)), False)
            self.assertIs(is_permutation(many, thing[1:]), False)
        for many, thing in ((2, (0, 0)), (2, (1, 1)), (2, (1, 2)), (2, (-1, 0)), (1, (False,)), (2, (True, 0)),
                            (2, (0, "1")), (2, "01"), (3, (0, 1, 1)), (3, (0, 1, GREAT)), (1, (None,)), (2, None)):
            self.assertIs(is_permutation(many, thing), False, thing)

    def test_random_pictures(self):
        rng = random.Random(5)
        seen = {True: 0, False: 0}
        for _ in range(3000):
            many = rng.randint(1, 4)
            sides, ups = rng.sample(range(many), many), rng.sample(range(many), many)
            thing = (tuple(sides), tuple(ups), (None,) * many)
            seen[judges.picture(thing)] += 1
            self.assertIs(is_picture(thing), judges.picture(thing), thing)
        self.assertTrue(min(seen.values()) > 300)

    def test_a_long_picture(self):
        many = 1000
        sides = tuple(range(1, many)) + (0,)
        same = tuple(range(many))
        self.assertIs(is_picture((sides, same, (None,) * many)), True)
        self.assertIs(is_picture((same, sides, (None,) * many)), True)
        self.assertIs(is_picture((same, same, (None,) * many)), False)

    def test_edges(self):
        for table in plain.tables(60):
            told = plain.edges(table)
            for side in ("right", "up", "left", "down", "", "Right", "rights", None):
                for cell in (-1, *range(table[0] + 1), True, None, GREAT, "0"):
                    expected = type(cell) is int and (side, cell) in told
                    self.assertIs(is_edge(table, (side, cell)), expected, (table, side, cell))
                    self.assertIs(is_edge(table, [side, cell]), False)
                    self.assertIs(is_edge(table, (side, cell, 0)), False)
        self.assertIs(is_edge(PAIR, ("left", 1)), False)
        self.assertIs(is_edge(PAIR, ("right", 0)), True)
        self.assertIs(is_edge(PAIR, ("left", False)), False)
        self.assertIs(is_edge(TORUS, ("down", 0)), False)

    def test_corners_and_labels(self):
        for table in (BOX, PAIR, BENT):
            for cell in (-1, 0, 1, 2, 3, GREAT, True, False, None):
                for x in (-1, 0, 1, 2, True, False):
                    for y in (-1, 0, 1, 2, True, False):
                        good = judges.corner(table[0], (cell, x, y))
                        self.assertIs(is_corner(table, (cell, x, y)), good)
                        self.assertIs(is_corner(table, [cell, x, y]), False)
                        for mark in (-1, 0, 1, 2, True, False, "0"):
                            expected = good and type(mark) is int and 0 <= mark < table[1]
                            self.assertIs(is_label(table, (cell, x, y, mark)), expected)
                            self.assertIs(is_label(table, [cell, x, y, mark]), False)
        self.assertIs(is_corner(BOX, (0, 0)), False)
        self.assertIs(is_corner(BOX, (0, 0, 0, 0)), False)
        self.assertIs(is_label(BOX, (0, 0, 0)), False)
        self.assertIs(is_label(BOX, (0, 0, 0, 0, 0)), False)

    def test_corners_at(self):
        self.assertEqual(corners_at((0,), (None,), (0, 1, 0)), ((0, 0, 0), (0, 1, 0)))
        self.assertEqual(corners_at((1, None), (None, 0), (0, 0, 0)), ((0, 0, 0), (0, 1, 1), (1, 0, 1)))
        for table in plain.tables(80):
            for corner in plain.all_corners(table):
                self.assertEqual(corners_at(table[2], table[3], corner), plain.point(table, corner))

    def test_corners_at_far_away(self):
        # Many CELLS joined so that hundreds of CORNERS are one, in rounds that go far.
        many = 200
        ups = list(range(many))
        random.Random(3).shuffle(ups)
        rights = tuple(range(1, many)) + (0,)
        table = (many, 1, rights, tuple(ups), (), ())
        points = plain.points(table)
        self.assertTrue(max(len(one) for one in points) > 200)
        for one in points:
            self.assertEqual(corners_at(rights, tuple(ups), one[-1]), one)
        row = tuple(range(1, many)) + (None,)
        self.assertEqual(corners_at(row, (None,) * many, (7, 1, 0)), ((7, 1, 0), (8, 0, 0)))

    def test_tables_are_told(self):
        for table in plain.tables(60):
            self.assertIs(is_table(table), True)
            self.assertIs(is_table(list(table)), False)
        for bad in (
            (1, 1, (0, None), (None,), (), ()), (2, 1, (1, 1), (None, None), (), ()), (1, 1, (True,), (None,), (), ()),
            (2, 2, (1, None), (None, None), ((("left", 1), (1, 0)),), ()),
            (2, 2, (1, None), (None, None), ((("right", 0), (1, 0)), (("right", 0), (1, 0))), ()),
            (1, 2, (None,), (None,), ((("up", 0), (1, 0)), (("right", 0), (1, 0))), ()),
            (1, 2, (None,), (None,), ((("right", 0), (0, 1)),), ()),
            (2, 1, (1, None), (None, None), (), (((1, 0, 0), "a"),)),
            (1, 1, (None,), (None,), (), (((0, 1, 0), "a"), ((0, 0, 0), "b"))),
            (1, 1, (None,), (None,), (), (((0, 0, 0), "a"), ((0, 0, 0), "b"))),
            TWO + (0,), TWO[:5], None,
        ):
            self.assertIs(is_table(bad), False, bad)


if __name__ == "__main__":
    unittest.main()
