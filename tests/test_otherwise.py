"""[15]: TABLES otherwise."""

import random
import unittest

from hownarrow.balls import shot
from hownarrow.forms import is_table
from hownarrow.otherwise import (
    mirrored, refined, refined_corner, renamed, turned, with_dial, with_join, with_pocket, without_join,
    without_pocket,
)
from tests import plain
from tests.plain import BENT, BOX, ENDING, ONE, PAIR, SQUARE, STRIP, TWO

SPOT = (0, 0, 0, 0)


def orders(table, many, seed=1):
    rng = random.Random(seed)
    return [tuple(rng.sample(range(table[0]), table[0])) for _ in range(many)]


class Case(unittest.TestCase):
    def same_but_for(self, table, other, led, is_turned=False):
        """Other is the table with its LABELS called as led tells: its ways, pockets and all."""
        self.assertIs(is_table(other), True, other)
        self.assertEqual(other[:2], table[:2])
        for label in plain.all_labels(table):
            for is_up in (False, True):
                there = plain.go(other, led(label), is_up != is_turned)
                self.assertEqual(there, led(plain.go(table, label, is_up)))
        self.assertEqual(names(other), {led(corner + (0,))[:3]: name for corner, name in names(table).items()})


def names(table):
    """The dict from all CORNERS with a pocket to its name."""
    return {corner: name for caller, name in table[5] for corner in plain.point(table, caller)}


class TestTurned(Case):
    def test_mirrored(self):
        self.assertEqual(mirrored(TWO, False), (2, 1, (None, 0), (None, None), (), (((0, 1, 0), "a"),)))
        self.assertEqual(mirrored(TWO, True), (2, 1, (1, None), (None, None), (), (((0, 0, 1), "a"),)))
        gate = (2, 2, (1, None), (None, None), ((("left", 0), (1, 0)), (("right", 0), (1, 0)), (("up", 1), (1, 0))), ())
        self.assertEqual(mirrored(gate, False)[2:5], ((None, 0), (None, None), (
            (("right", 0), (1, 0)), (("right", 1), (1, 0)), (("up", 1), (1, 0)))))
        self.assertEqual(mirrored(gate, True)[2:5], ((1, None), (None, None), (
            (("down", 1), (1, 0)), (("left", 0), (1, 0)), (("right", 0), (1, 0)))))
        for table in plain.tables(80):
            aside, over = mirrored(table, False), mirrored(table, True)
            self.same_but_for(table, aside, lambda label: (label[0], 1 - label[1], label[2], label[3]))
            self.same_but_for(table, over, lambda label: (label[0], label[1], 1 - label[2], label[3]))
            self.assertEqual(mirrored(aside, False), table)
            self.assertEqual(mirrored(over, True), table)
            self.assertEqual(mirrored(aside, True), mirrored(over, False))

    def test_turned(self):
        self.assertEqual(turned(TWO), (2, 1, (None, None), (1, None), (), (((0, 0, 0), "a"),)))
        self.assertEqual(turned(PAIR), (2, 2, (None, None), (1, None), ((("up", 0), (1, 0)),), ()))
        for table in plain.tables(80):
            other = turned(table)
            self.same_but_for(table, other, lambda label: (label[0], label[2], label[1], label[3]), True)
            self.assertEqual(turned(other), table)
            self.assertEqual(turned(mirrored(table, False)), mirrored(other, True))

    def test_renamed(self):
        self.assertEqual(renamed(TWO, (1, 0)), (2, 1, (None, 0), (None, None), (), (((1, 0, 0), "a"),)))
        self.assertEqual(renamed(TWO, (0, 1)), TWO)
        self.assertEqual(renamed(ENDING, (2, 0, 3, 1))[2:4], ((None, None, 0, None), (1, None, 3, None)))
        for table in plain.tables(60):
            for order in orders(table, 2):
                other = renamed(table, order)
                self.same_but_for(table, other, lambda label: (order[label[0]],) + label[1:])
                back = tuple([order.index(cell) for cell in range(table[0])])
                self.assertEqual(renamed(other, back), table)

    def test_shots(self):
        rng = random.Random(7)
        for table in plain.tables(40, seed=17):
            order = orders(table, 1, seed=table[0])[0]
            for label in rng.sample(plain.all_labels(table), 2):
                cell, x, y, mark = label
                for p, q in rng.sample(plain.slopes(12), 3):
                    outcome = shot(table, label, (p, q))
                    self.assertEqual(shot(mirrored(table, False), (cell, 1 - x, y, mark), (p, q)), outcome)
                    self.assertEqual(shot(mirrored(table, True), (cell, x, 1 - y, mark), (p, q)), outcome)
                    self.assertEqual(shot(renamed(table, order), (order[cell], x, y, mark), (p, q)), outcome)
                    across = shot(turned(table), (cell, y, x, mark), (q, p))
                    if table[1] == 1:
                        self.assertEqual(across, outcome)
                    else:
                        # At a HOLE the order of both last steps shows, in the mark alone.
                        self.assertEqual(across[:2] + across[3:], outcome[:2] + outcome[3:])


class TestRefined(Case):
    def test_some(self):
        self.assertEqual(refined((1, 1, (None,), (None,), (), (((0, 1, 1), "b"),)), 2),
                         (4, 1, (1, None, 3, None), (2, 3, None, None), (), (((3, 1, 1), "b"),)))
        self.assertEqual(refined(STRIP, 2), (4, 1, (1, 0, 3, 2), (2, 3, None, None), (), ()))
        self.assertEqual(refined(PAIR, 2)[2:5], (
            (1, 4, 3, 6, 5, None, 7, None), (2, 3, None, None, 6, 7, None, None),
            ((("right", 1), (1, 0)), (("right", 3), (1, 0)))))
        dials = tuple([((side, 0), (1, 0)) for side in ("down", "left", "right", "up")])
        self.assertEqual([edge for edge, _ in refined((1, 2, (None,), (None,), dials, ()), 2)[4]],
                         [("down", 0), ("down", 1), ("left", 0), ("left", 2), ("right", 1), ("right", 3), ("up", 2),
                          ("up", 3)])
        self.assertEqual([edge for edge, _ in refined((1, 2, (0,), (0,), dials[2:], ()), 2)[4]],
                         [("right", 1), ("right", 3), ("up", 2), ("up", 3)])

    def test_refined_corner(self):
        self.assertEqual(refined_corner(2, (0, 1, 1)), (3, 1, 1))
        self.assertEqual([refined_corner(3, (2, x, y)) for x in (0, 1) for y in (0, 1)],
                         [(18, 0, 0), (24, 0, 1), (20, 1, 0), (26, 1, 1)])
        self.assertEqual(refined_corner(1, (5, 1, 0)), (5, 1, 0))

    def test_part_by_part(self):
        for table in plain.tables(30):
            self.assertEqual(refined(table, 1), table)
            for many in (2, 3):
                other = refined(table, many)
                self.assertIs(is_table(other), True)
                self.assertEqual(other[:2], (table[0] * many * many, table[1]))
                parts = {(cell, i, j): (cell * many + j) * many + i
                         for cell in range(table[0]) for i in range(many) for j in range(many)}
                turning = {}
                for (cell, i, j), part in parts.items():
                    right, over = table[2][cell], table[3][cell]
                    if i < many - 1:
                        aside = parts[(cell, i + 1, j)]
                    else:
                        aside = None if right is None else parts[(right, 0, j)]
                    if j < many - 1:
                        above = parts[(cell, i, j + 1)]
                    else:
                        above = None if over is None else parts[(over, i, 0)]
                    self.assertEqual([other[2][part], other[3][part]], [aside, above])
                    last = many - 1
                    for side, lies in (("right", i == last), ("left", i == 0), ("up", j == last), ("down", j == 0)):
                        if lies and (side, cell) in dict(table[4]):
                            turning[(side, part)] = dict(table[4])[(side, cell)]
                self.assertEqual(dict(other[4]), turning)
                corners = {corner: refined_corner(many, corner) for corner in plain.all_corners(table)}
                self.assertEqual({corner for corner in names(other)} & set(corners.values()),
                                 {corners[corner] for corner in names(table)})
                self.assertEqual(len(other[5]), len(table[5]))
                for corner, name in names(table).items():
                    self.assertEqual(names(other)[corners[corner]], name)

    def test_shots(self):
        # A STRETCH of the TABLE is many STRETCHES of the refined one, and what lies between is FREE.
        rng = random.Random(9)
        for table in plain.tables(25, seed=41, most=5):
            for many in (2, 3):
                other = refined(table, many)
                for label in rng.sample(plain.all_labels(table), 2):
                    corner = refined_corner(many, label[:3])
                    for slope in rng.sample(plain.slopes(11), 2):
                        outcome = shot(table, label, slope)
                        found = shot(other, corner + (label[3],), slope)
                        self.assertEqual(found, outcome[:-1] + (outcome[-1] * many,))

    def test_great_ones_may_be_passed_in_again(self):
        great = refined(refined(PAIR, 3), 2)
        self.assertEqual(great[0], 72)
        self.assertEqual(shot(great, SPOT, (2, 1)), ("round", 12))
        self.assertEqual(mirrored(turned(great), False), turned(mirrored(great, True)))


class TestJoins(Case):
    def test_some(self):
        self.assertEqual(with_join(TWO, "right", 1, 0), (2, 1, (1, 0), (None, None), (), (((0, 0, 0), "a"),)))
        self.assertIsNone(with_join(TWO, "right", 0, 0))
        self.assertIsNone(with_join(TWO, "right", 1, 1))
        self.assertIsNone(with_join(TWO, "right", 0, 1))
        self.assertEqual(with_join(TWO, "up", 1, 0)[3], (None, 0))
        self.assertEqual(without_join(TWO, "right", 0), (2, 1, (None, None), (None, None), (), (((0, 0, 0), "a"),)))
        self.assertIsNone(without_join(TWO, "right", 1))
        self.assertIsNone(without_join(TWO, "up", 0))

    def test_a_cell_to_itself(self):
        self.assertEqual(with_join(ONE, "right", 0, 0), STRIP)
        self.assertEqual(without_join(STRIP, "right", 0), ONE)
        self.assertEqual(with_join(STRIP, "up", 0, 0), plain.TORUS)
        self.assertEqual(without_join(plain.TORUS, "right", 0), (1, 1, (None,), (0,), (), ()))
        self.assertEqual(with_join(BOX, "right", 0, 0)[5], (((0, 0, 0), "a"), ((0, 0, 1), "b")))
        self.assertEqual(with_join(BOX, "up", 0, 0)[5], (((0, 0, 0), "a"), ((0, 1, 0), "c")))
        torus = with_join(with_join(BOX, "right", 0, 0), "up", 0, 0)
        self.assertEqual(torus, (1, 1, (0,), (0,), (), (((0, 0, 0), "a"),)))
        self.assertEqual(without_join(torus, "up", 0)[5], (((0, 0, 0), "a"), ((0, 0, 1), "a")))

    def test_pockets_where_points_become_one(self):
        apart = (2, 1, (None, None), (None, None), (), ())
        for one, other, expected in ((None, None, None), ("m", None, "m"), (None, "n", "n"), ("m", "n", "m")):
            pockets = [((0, 1, 0), one)] * (one is not None) + [((1, 0, 0), other)] * (other is not None)
            joined = with_join(apart[:5] + (tuple(pockets),), "right", 0, 1)
            self.assertEqual(joined[5], () if expected is None else (((0, 1, 0), expected),))
            joined = with_join(apart[:5] + (tuple(pockets),), "right", 1, 0)
            self.assertEqual(joined[5], tuple(pockets))
        # The least CORNER is that of those with pockets: the POINT is called by another one.
        joined = with_join((3, 1, (None, None, None), (1, None, None), (), (((0, 1, 1), "z"), ((2, 0, 0), "b"))),
                           "right", 1, 2)
        self.assertEqual(joined[5], (((0, 1, 1), "z"),))
        joined = with_join((2, 1, (None, None), (None, None), (), (((1, 0, 0), "z"), ((1, 0, 1), "y"))), "right", 0, 1)
        self.assertEqual(joined[5], (((0, 1, 0), "z"), ((0, 1, 1), "y")))

    def test_permutations_go(self):
        dials = tuple([((side, cell), (1, 0)) for side in ("down", "left", "right", "up") for cell in (0, 1)])
        apart = (2, 2, (None, None), (None, None), dials, ())
        gone = {("right", 0, 1): (("left", 1), ("right", 0)), ("right", 1, 1): (("left", 1), ("right", 1)),
                ("up", 1, 0): (("down", 0), ("up", 1)), ("up", 0, 0): (("down", 0), ("up", 0))}
        for (side, cell, other), lost in gone.items():
            joined = with_join(apart, side, cell, other)
            self.assertEqual(joined[4], tuple([dial for dial in dials if dial[0] not in lost]))
            again = with_dial(joined, (side, cell), (1, 0))
            self.assertEqual(without_join(again, side, cell)[4], joined[4])

    def test_joins_one_by_one(self):
        for table in plain.tables(40, seed=51):
            for side, at, far in (("right", 2, "left"), ("up", 3, "down")):
                for cell in range(table[0]):
                    for other in range(table[0]):
                        found = with_join(table, side, cell, other)
                        if table[at][cell] is not None or other in table[at]:
                            self.assertIsNone(found)
                            continue
                        row = list(table[at])
                        row[cell] = other
                        rows = [table[2], table[3]]
                        rows[at - 2] = tuple(row)
                        dials = [dial for dial in table[4] if dial[0] not in ((side, cell), (far, other))]
                        expected = (*table[:2], *rows, tuple(dials), ())
                        pockets = []
                        for point in plain.points(expected):
                            told = [name for corner, name in table[5] if corner in point]
                            pockets.extend([(point[0], told[0])] if told else [])
                        self.assertEqual(found, expected[:5] + (tuple(pockets),))
                        self.assertIs(is_table(found), True)

    def test_partings_one_by_one(self):
        for table in plain.tables(60, seed=61):
            for side, at in (("right", 2), ("up", 3)):
                for cell in range(table[0]):
                    found = without_join(table, side, cell)
                    if table[at][cell] is None:
                        self.assertIsNone(found)
                        continue
                    row = list(table[at])
                    row[cell] = None
                    rows = [table[2], table[3]]
                    rows[at - 2] = tuple(row)
                    dials = [dial for dial in table[4] if dial[0] != (side, cell)]
                    expected = (*table[:2], *rows, tuple(dials), ())
                    pockets = [(point[0], names(table)[point[0]]) for point in plain.points(expected)
                               if point[0] in names(table)]
                    self.assertEqual(found, expected[:5] + (tuple(pockets),))
                    self.assertIs(is_table(found), True)

    def test_parted_points(self):
        pocketed = SQUARE[:5] + ((((0, 1, 0), "s"), ((0, 1, 1), "m")),)
        once = without_join(pocketed, "right", 0)
        self.assertEqual(once[5], (((0, 1, 0), "s"), ((0, 1, 1), "m"), ((1, 0, 0), "s")))
        twice = without_join(once, "right", 2)
        self.assertEqual(twice[5], (((0, 1, 0), "s"), ((0, 1, 1), "m"), ((1, 0, 0), "s"), ((1, 0, 1), "m")))
        self.assertEqual(without_join(BENT, "up", 0)[5], ())


class TestDialsAndPockets(Case):
    def test_with_dial(self):
        self.assertEqual(with_dial(PAIR, ("right", 0), (0, 1))[4], ())
        self.assertEqual(with_dial(PAIR, ("up", 1), (1, 0))[4], ((("right", 0), (1, 0)), (("up", 1), (1, 0))))
        self.assertEqual(with_dial(PAIR, ("left", 0), (1, 0))[4], ((("left", 0), (1, 0)), (("right", 0), (1, 0))))
        self.assertEqual(with_dial(PAIR, ("right", 0), (1, 0)), PAIR)
        self.assertEqual(with_dial(PAIR, ("up", 1), (0, 1)), PAIR)
        self.assertEqual(with_dial(plain.ONE, ("up", 0), (0,)), plain.ONE)
        three = (1, 3, (None,), (None,), ((("right", 0), (1, 0, 2)), (("up", 0), (0, 2, 1))), ())
        self.assertEqual(with_dial(three, ("right", 0), (2, 0, 1))[4], ((("right", 0), (2, 0, 1)), three[4][1]))
        rng = random.Random(12)
        for table in plain.tables(60):
            for edge in plain.edges(table):
                turn = tuple(rng.sample(range(table[1]), table[1]))
                dials = dict(table[4])
                dials[edge] = turn
                if turn == tuple(range(table[1])):
                    del dials[edge]
                expected = table[:4] + (tuple(sorted(dials.items())), table[5])
                self.assertEqual(with_dial(table, edge, turn), expected)

    def test_pockets(self):
        self.assertEqual(with_pocket(TWO, (1, 0, 1), "m")[5], (((0, 0, 0), "a"), ((0, 1, 1), "m")))
        self.assertEqual(with_pocket(TWO, (0, 0, 0), "m")[5], (((0, 0, 0), "m"),))
        self.assertEqual(without_pocket(TWO, (0, 0, 0))[5], ())
        self.assertEqual(without_pocket(TWO, (1, 0, 1)), TWO)
        for table in plain.tables(60):
            for corner in plain.all_corners(table):
                caller = plain.point(table, corner)[0]
                pockets = dict(table[5])
                pockets[caller] = "new"
                self.assertEqual(with_pocket(table, corner, "new"), table[:5] + (tuple(sorted(pockets.items())),))
                del pockets[caller]
                self.assertEqual(without_pocket(table, corner), table[:5] + (tuple(sorted(pockets.items())),))


if __name__ == "__main__":
    unittest.main()
