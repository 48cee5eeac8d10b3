"""[18]: places and times."""

import random
import unittest
from fractions import Fraction
from math import gcd

from hownarrow.balls import shot, stretch, track
from hownarrow.errors import NoShot
from hownarrow.places import place_at, times_over
from tests import plain
from tests.plain import BENT, BOX, DIAL, ELL, PAIR, SEVERAL, TORUS

SPOT = (0, 0, 0, 0)


def share(number):
    return (number.numerator, number.denominator)


def lines(slope):
    """The lines of one STRETCH: (when, whether it is one up), in order."""
    p, q = slope
    aside = [(Fraction(step, p), False) for step in range(1, p)]
    return sorted(aside + [(Fraction(step, q), True) for step in range(1, q)])


def where(table, way, slope, time):
    """The place at a TIME above 0, going straight from the LABEL at the start of its STRETCH."""
    whole = time.numerator // time.denominator
    begun = whole if time > whole else whole - 1
    label, gone = way[begun % (len(way) - 1)], time - begun
    aside, over = gone * slope[0], gone * slope[1]
    for at, is_up in lines(slope):
        if at < gone:
            label = plain.go(table, label, is_up)
            if is_up:
                over -= 1
            else:
                aside -= 1
    cell, x, y, mark = label
    return (cell, share(1 - aside if x else aside), share(1 - over if y else over), mark)


class TestPlaceAt(unittest.TestCase):
    def test_of_one_cell(self):
        told = [place_at(BOX, SPOT, (2, 1), time) for time in ((0, 1), (1, 4), (1, 2), (3, 4), (1, 1))]
        self.assertEqual(told, [
            (0, (0, 1), (0, 1), 0), (0, (1, 2), (1, 4), 0), (0, (1, 1), (1, 2), 0), (0, (1, 2), (3, 4), 0),
            (0, (0, 1), (1, 1), 0),
        ])

    def test_time_0_is_the_spot(self):
        for table in plain.tables(12, seed=11):
            for label in plain.all_labels(table)[::3]:
                cell, x, y, mark = label
                self.assertEqual(place_at(table, label, (3, 2), (0, 1)), (cell, (x, 1), (y, 1), mark))

    def test_just_ahead_of_a_dial_and_behind_it(self):
        # The gate of this TABLE turns the dial, and is crossed at one half.
        ahead, at, behind = [place_at(PAIR, SPOT, (2, 1), time) for time in ((49, 100), (1, 2), (51, 100))]
        self.assertEqual(ahead, (0, (49, 50), (49, 100), 0))
        self.assertEqual(at, (0, (1, 1), (1, 2), 0))
        self.assertEqual(behind, (1, (1, 50), (51, 100), 1))
        # A cushion that turns the dial, here at the end of the STRETCH.
        free = DIAL[:5] + ((((0, 0, 0), "a"),),)
        self.assertEqual(place_at(free, SPOT, (1, 1), (1, 1)), (0, (1, 1), (1, 1), 0))
        self.assertEqual(place_at(free, SPOT, (1, 1), (3, 2)), (0, (1, 2), (1, 2), 1))

    def test_at_ends_of_stretches(self):
        for table in plain.tables(15, seed=12):
            for slope in ((1, 1), (2, 1), (3, 5), (7, 4)):
                label = plain.all_labels(table)[-1]
                way = track(table, label, slope)
                for at in range(1, len(way)):
                    events = stretch(table, way[at - 1], slope)[0]
                    cell, x, y, mark = events[-1][1] if events else way[at - 1]
                    self.assertEqual(place_at(table, label, slope, (at, 1)), (cell, (1 - x, 1), (1 - y, 1), mark))

    def test_beyond_a_fall(self):
        for table, slope, many in ((BOX, (2, 1), 1), (ELL, (3, 2), 2), (BENT, (1, 1), 1)):
            self.assertEqual(shot(table, SPOT, slope)[::3], ("falls", many))
            place_at(table, SPOT, slope, (many, 1))
            place_at(table, SPOT, slope, (many * 1000 - 1, 1000))
            for time in ((many * 1000 + 1, 1000), (2 * many + 1, 2), (many + 1, 1), (10 ** 30, 1)):
                with self.assertRaises(NoShot):
                    place_at(table, SPOT, slope, time)

    def test_a_spot_at_a_pocket(self):
        home = (1, 1, (None,), (None,), (), (((0, 0, 0), "home"),))
        self.assertEqual(place_at(home, SPOT, (1, 1), (0, 1)), (0, (0, 1), (0, 1), 0))
        self.assertEqual(place_at(home, SPOT, (1, 1), (3, 2)), (0, (1, 2), (1, 2), 0))
        self.assertEqual(place_at(home, SPOT, (1, 1), (2, 1)), (0, (0, 1), (0, 1), 0))
        with self.assertRaises(NoShot):
            place_at(home, SPOT, (1, 1), (5, 2))

    def test_far_beyond_in_a_round(self):
        self.assertEqual(shot(PAIR, SPOT, (1, 1)), ("round", 4))
        for time in ((1, 2), (1, 1), (3, 2), (7, 3), (4, 1)):
            near = place_at(PAIR, SPOT, (1, 1), time)
            for rounds in (1, 2, 10 ** 30):
                far = (time[0] + 4 * rounds * time[1], time[1])
                self.assertEqual(place_at(PAIR, SPOT, (1, 1), far), near)
        # Behind whole rounds the ball is at the end of one, not at the SPOT as it lies there.
        self.assertEqual(place_at(TORUS, SPOT, (1, 1), (5, 1)), (0, (1, 1), (1, 1), 0))
        self.assertEqual(place_at(PAIR, SPOT, (1, 1), (4 * 10 ** 30, 1)), (0, (0, 1), (0, 1), 0))

    def test_beside_going_straight(self):
        rng = random.Random(13)
        for table in plain.tables(40, seed=14):
            for slope in rng.sample(plain.slopes(14), 3):
                label = rng.choice(plain.all_labels(table))
                outcome, way = plain.ball(table, label, slope)
                many = outcome[-1]
                begun = rng.randrange(many)
                times = [begun + at for at, _ in lines(slope)]
                times += [Fraction(rng.randrange(1, 60 * many + 1), 60) for _ in range(6)]
                times += [Fraction(2 * many - 1, 2), Fraction(many), Fraction(1, 1000), many - Fraction(1, 10 ** 20)]
                if outcome[0] == "round":
                    times += [many * rng.randrange(1, 50) + time for time in list(times)]
                for time in times:
                    self.assertEqual(place_at(table, label, slope, share(time)), where(table, way, slope, time))

    def test_long_slopes(self):
        for slope in ((7999, 1), (1, 7999), (4001, 3999), (2999, 5001)):
            way = track(PAIR, SPOT, slope)
            for time in (Fraction(1, 2), Fraction(7998, 7999), Fraction(1, 4001), Fraction(1234567, 9999991)):
                self.assertEqual(place_at(PAIR, SPOT, slope, share(time)), where(PAIR, way, slope, time))


def crossed(table, label, slope):
    """The dict from EDGES to the list of TIMES at which the SHOT crosses them."""
    found = {edge: [] for edge in plain.edges(table)}
    _, way = plain.ball(table, label, slope)
    for begun, here in enumerate(way[:-1]):
        for at, is_up in lines(slope):
            side = ("up", "down")[here[2]] if is_up else ("right", "left")[here[1]]
            found[plain.edge_named(table, here[0], side)].append(share(begun + at))
            here = plain.go(table, here, is_up)
    return found


class TestTimesOver(unittest.TestCase):
    def test_some(self):
        self.assertEqual(times_over(PAIR, SPOT, (2, 1), ("right", 0)), ((1, 2), (3, 2)))
        self.assertEqual(times_over(PAIR, SPOT, (2, 1), ("down", 1)), ())
        self.assertEqual(times_over(BOX, SPOT, (1, 1), ("right", 0)), ())
        self.assertEqual(times_over(BOX, SPOT, (1, 4), ("up", 0)), ((1, 4), (3, 4)))
        self.assertEqual(times_over(BOX, SPOT, (1, 4), ("down", 0)), ((1, 2),))
        self.assertEqual(times_over(TORUS, SPOT, (4, 3), ("right", 0)), ((1, 4), (1, 2), (3, 4)))
        self.assertEqual(times_over(TORUS, SPOT, (4, 3), ("up", 0)), ((1, 3), (2, 3)))

    def test_ends_of_stretches_are_no_events(self):
        self.assertEqual(times_over(PAIR, SPOT, (1, 1), ("right", 0)), ())
        self.assertEqual([times_over(ELL, SPOT, (1, 1), edge) for edge in plain.edges(ELL)], [()] * 10)

    def test_each_edge(self):
        rng = random.Random(15)
        for table in plain.tables(40, seed=16):
            for slope in rng.sample(plain.slopes(16), 3):
                label = rng.choice(plain.all_labels(table))
                expected = crossed(table, label, slope)
                many = 0
                for edge in plain.edges(table):
                    times = times_over(table, label, slope, edge)
                    self.assertIsInstance(times, tuple)
                    self.assertEqual(list(times), expected[edge])
                    many += len(times)
                    for one, other in zip(times, times[1:]):
                        self.assertLess(one[0] * other[1], other[0] * one[1])
                    self.assertTrue(all(gcd(*time) == 1 and time[0] > 0 < time[1] for time in times))
                self.assertEqual(many, shot(table, label, slope)[-1] * (sum(slope) - 2))

    def test_long_slopes(self):
        for slope in ((7999, 1), (1, 7999), (4001, 3999), (3001, 4998)):
            found = [times_over(SEVERAL, (1, 0, 0, 1), slope, edge) for edge in plain.edges(SEVERAL)]
            many = shot(SEVERAL, (1, 0, 0, 1), slope)[-1]
            self.assertEqual(sum(map(len, found)), many * (sum(slope) - 2))
        self.assertEqual(times_over(TORUS, SPOT, (7999, 1), ("right", 0))[:2], ((1, 7999), (2, 7999)))


if __name__ == "__main__":
    unittest.main()
