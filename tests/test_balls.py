"""[17]: single balls, step by step."""

import random
import unittest

from hownarrow.balls import contrary, shot, stretch, track
from hownarrow.labels import about, labels_of
from tests import plain
from tests.plain import AGAINST, BENT, BOX, ELL, ENDING, ONE, PAIR, SEVERAL, TORUS

SPOT = (0, 0, 0, 0)
LONG = ((1, 7999), (7999, 1), (4001, 3999), (3999, 4001), (2999, 5001), (4999, 3000), (123, 7853))


def some(table, rng, many):
    labels = plain.all_labels(table)
    return rng.sample(labels, min(many, len(labels)))


class TestStretch(unittest.TestCase):
    def test_the_order_of_the_lines(self):
        # On a torus nothing is turned, so the EDGES tell the lines alone.
        names = {"right": "s", "up": "u"}
        for slope, lines in (((1, 1), ""), ((2, 1), "s"), ((1, 2), "u"), ((3, 1), "ss"), ((1, 4), "uuu"),
                             ((3, 2), "sus"), ((2, 3), "usu"), ((5, 2), "ssuss"), ((3, 4), "ususu"),
                             ((4, 3), "susus"), ((5, 3), "sussus")):
            events, behind = stretch(TORUS, SPOT, slope)
            self.assertEqual("".join([names[edge[0]] for edge, _ in events]), lines, slope)
            self.assertEqual(behind, SPOT)
        for slope in plain.slopes(30) + list(LONG):
            events = stretch(TORUS, SPOT, slope)[0]
            self.assertEqual([edge[0] == "up" for edge, _ in events], plain.crossings(slope))

    def test_events(self):
        self.assertEqual(stretch(BOX, SPOT, (1, 1)), ((), (0, 1, 1, 0)))
        self.assertEqual(stretch(BOX, SPOT, (2, 1)), (((("right", 0), (0, 1, 0, 0)),), (0, 0, 1, 0)))
        self.assertEqual(stretch(PAIR, SPOT, (2, 1)), (((("right", 0), (1, 0, 0, 1)),), (1, 1, 1, 1)))
        self.assertEqual(stretch(PAIR, (1, 1, 1, 1), (2, 1))[0], ((("right", 0), (0, 1, 1, 0)),))
        self.assertEqual(stretch(BOX, SPOT, (1, 3))[0], ((("up", 0), (0, 0, 1, 0)), (("down", 0), (0, 0, 0, 0))))
        rng = random.Random(1)
        for table in plain.tables(40):
            for slope in plain.slopes(9) + [(7, 12), (31, 4)]:
                for label in some(table, rng, 3):
                    here = label
                    expected = []
                    for is_up in plain.crossings(slope):
                        side = ("up", "down")[here[2]] if is_up else ("right", "left")[here[1]]
                        edge = plain.edge_named(table, here[0], side)
                        here = plain.go(table, here, is_up)
                        expected.append((edge, here))
                    behind = plain.go(table, plain.go(table, here, False), True)
                    self.assertEqual(stretch(table, label, slope), (tuple(expected), behind))

    def test_sideways_and_then_up_at_the_end(self):
        # Where dials do not commute, the order at the end shows.
        table = (1, 3, (None,), (None,), ((("right", 0), (1, 0, 2)), (("up", 0), (0, 2, 1))), ())
        self.assertEqual(stretch(table, SPOT, (1, 1)), ((), (0, 1, 1, 2)))
        self.assertEqual(shot(table, SPOT, (1, 1)), ("falls", "", 2, 1))

    def test_long_ones(self):
        for slope in LONG:
            events, behind = stretch(PAIR, SPOT, slope)
            self.assertEqual(len(events), sum(slope) - 2)
            here = SPOT
            for is_up in plain.crossings(slope):
                here = plain.go(PAIR, here, is_up)
            self.assertEqual(events[-1][1], here)
            self.assertEqual(behind, plain.go(PAIR, plain.go(PAIR, here, False), True))


class TestShot(unittest.TestCase):
    def test_into_pockets(self):
        self.assertEqual([shot(BOX, SPOT, slope) for slope in ((2, 1), (3, 5), (1, 4))],
                         [("falls", "b", 0, 1), ("falls", "d", 0, 1), ("falls", "c", 0, 1)])
        self.assertEqual(shot(ELL, SPOT, (3, 2)), ("falls", "c", 0, 2))
        self.assertEqual(shot(ELL, SPOT, (1, 1)), ("falls", "", 0, 1))

    def test_holes_without_a_pocket(self):
        self.assertEqual(shot(BENT, SPOT, (1, 1)), ("falls", "", 0, 1))
        self.assertEqual(shot(ENDING, SPOT, (1, 1)), ("falls", "", 0, 1))
        self.assertEqual(track(ENDING, SPOT, (1, 1)), (SPOT, (3, 0, 0, 0)))
        self.assertEqual(shot(AGAINST, (0, 0, 0, 1), (1, 1))[:2], ("falls", ""))

    def test_rounds(self):
        self.assertEqual(shot(ONE, SPOT, (1, 1)), ("round", 2))
        self.assertEqual(shot(TORUS, SPOT, (5, 3)), ("round", 1))
        self.assertEqual([shot(PAIR, SPOT, slope) for slope in ((1, 1), (2, 1))], [("round", 4), ("round", 2)])
        self.assertEqual(track(PAIR, SPOT, (1, 1)), (SPOT, (1, 0, 1, 1), (1, 1, 0, 1), (0, 1, 1, 0), SPOT))

    def test_a_spot_at_a_pocket(self):
        # The POINT of the SPOT is not asked ahead of the first STRETCH, but it is behind one.
        home = (1, 1, (None,), (None,), (), (((0, 0, 0), "home"),))
        self.assertEqual(shot(home, SPOT, (1, 1)), ("falls", "home", 0, 2))
        self.assertEqual(track(home, SPOT, (1, 1)), (SPOT, (0, 1, 1, 0), SPOT))
        far = (1, 1, (0,), (0,), (), (((0, 0, 0), "far"),))
        self.assertEqual(shot(far, (0, 1, 0, 0), (2, 5)), ("falls", "far", 0, 1))
        self.assertEqual(shot(BENT, (0, 1, 1, 0), (1, 1)), ("falls", "", 0, 2))

    def test_beside_another_ball(self):
        rng = random.Random(2)
        for table in plain.tables(40):
            for slope in plain.slopes(7) + [(9, 5), (2, 11)]:
                for label in some(table, rng, 2):
                    outcome, way = plain.ball(table, label, slope)
                    self.assertEqual(shot(table, label, slope), outcome)
                    self.assertEqual(track(table, label, slope), way)

    def test_track_beside_shot(self):
        rng = random.Random(3)
        for table in plain.tables(60, seed=31):
            for slope in rng.sample(plain.slopes(40), 4):
                for label in some(table, rng, 2):
                    outcome = shot(table, label, slope)
                    way = track(table, label, slope)
                    self.assertEqual(len(way), outcome[-1] + 1)
                    self.assertEqual(way[0], label)
                    self.assertTrue(len(way) - 1 <= len(labels_of(table)))
                    for one, other in zip(way, way[1:]):
                        self.assertEqual(stretch(table, one, slope)[1], other)
                    if outcome[0] == "round":
                        self.assertEqual(way[-1], label)
                    else:
                        self.assertEqual(way[-1][3], outcome[2])

    def test_long_ones(self):
        for slope in LONG:
            expected = dict(plain.FOUR)[(0, slope[0] % 2, slope[1] % 2)]
            self.assertEqual(shot(BOX, SPOT, slope), ("falls", expected, 0, 1), slope)
        self.assertEqual(shot(TORUS, SPOT, (4001, 3999)), ("round", 1))
        for slope in LONG[:3]:
            outcome = shot(SEVERAL, (1, 0, 0, 1), slope)
            way = track(SEVERAL, (1, 0, 0, 1), slope)
            self.assertEqual(outcome[-1] + 1, len(way))
            for one, other in zip(way, way[1:]):
                self.assertEqual(stretch(SEVERAL, one, slope)[1], other)


class TestContrary(unittest.TestCase):
    def test_some(self):
        self.assertEqual(contrary(BOX, SPOT, (1, 1)), (0, 1, 1, 0))
        self.assertEqual(contrary(BOX, SPOT, (2, 1)), (0, 0, 1, 0))
        self.assertEqual(contrary(PAIR, SPOT, (2, 1)), (1, 1, 1, 1))
        self.assertEqual(contrary(PAIR, (0, 1, 0, 1), (1, 1)), (0, 0, 1, 1))

    def test_there_and_back(self):
        rng = random.Random(5)
        for table in plain.tables(50):
            for slope in rng.sample(plain.slopes(14), 6):
                for label in some(table, rng, 3):
                    events = stretch(table, label, slope)[0]
                    last = events[-1][1] if events else label
                    back = contrary(table, label, slope)
                    self.assertEqual(back, about(last))
                    returned = stretch(table, back, slope)[0]
                    self.assertEqual([edge for edge, _ in returned], [edge for edge, _ in events][::-1])
                    end = returned[-1][1] if returned else back
                    self.assertEqual(about(end)[:3], label[:3])
                    if table[1] == 1:
                        self.assertEqual(contrary(table, back, slope), label)

    def test_dials_turn_once_more_on_the_way_back(self):
        table = (2, 3, (1, None), (None, None), ((("right", 0), (1, 2, 0)),), ())
        back = contrary(table, SPOT, (2, 1))
        self.assertEqual(back, (1, 1, 1, 1))
        self.assertEqual(contrary(table, back, (2, 1)), (0, 0, 0, 2))

    def test_long_ones(self):
        for slope in LONG:
            back = contrary(PAIR, SPOT, slope)
            edges = [edge for edge, _ in stretch(PAIR, SPOT, slope)[0]]
            self.assertEqual([edge for edge, _ in stretch(PAIR, back, slope)[0]], edges[::-1])


if __name__ == "__main__":
    unittest.main()
