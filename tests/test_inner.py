"""[34]: balls that do not begin at a CORNER."""

import random
import unittest
from fractions import Fraction
from math import gcd

from hownarrow.balls import shot
from hownarrow.errors import NoShot
from hownarrow.forms import is_label
from hownarrow.inner import gone, is_ball, meets_corners, met_corner, round_of, row_under, strip_at
from hownarrow.strips import row_of, rows_of, strips_of
from tests import judges, lines, plain
from tests.plain import AGAINST, BENT, BOX, DIAL, ENDING, ONE, PAIR, SEVERAL, TORUS

SPOT = (0, 0, 0, 0)
SLOPES = ((1, 1), (1, 2), (2, 1), (1, 4), (3, 2), (2, 5), (5, 3))
GREAT = 10 ** 39


def part(share):
    return (share.numerator, share.denominator)


def random_part(rng, great=False):
    while True:
        d = rng.randrange(2, GREAT) if great else rng.randint(2, 12)
        n = rng.randrange(1, d)
        if gcd(n, d) == 1:
            return (n, d)


def random_ball(rng, table, great=False):
    return (rng.choice(plain.all_labels(table)), random_part(rng, great), random_part(rng, great))


def ball_at_height(rng, table, slope, height, great=False):
    """A BALL whose LINE lies so high: p times y less q times x is height."""
    p, q = slope
    low, high = max(Fraction(0), -height / Fraction(q)), min(Fraction(1), (p - height) / Fraction(q))
    x = low + (high - low) * Fraction(*random_part(rng, great))
    return (rng.choice(plain.all_labels(table)), part(x), part((height + q * x) / p))


def meeting_ball(rng, table, slope):
    """A BALL whose LINE meets CORNERS."""
    p, q = slope
    return ball_at_height(rng, table, slope, rng.randint(1 - q, p - 1))


def free_ball(rng, table, slope, great=False):
    """A BALL whose LINE meets none."""
    while True:
        ball = random_ball(rng, table, great)
        if lines.height(ball, slope).denominator > 1:
            return ball


def near_ball(rng, table, slope):
    """A BALL whose LINE lies just above, or just below, that of CORNERS."""
    p, q = slope
    height = rng.randint(1 - q, p - 1) + Fraction(rng.choice((1, -1)), rng.choice((7, 1000, GREAT)))
    return ball_at_height(rng, table, slope, height)


def some_balls(many, seed, cells=5, marks=3):
    """(TABLE, SLOPE, BALL): all sorts of BALLS whose LINES meet no CORNERS."""
    rng = random.Random(seed)
    for table in plain.tables(many, seed=seed, most=cells, marks=marks):
        for slope in rng.sample(SLOPES, 3):
            yield table, slope, free_ball(rng, table, slope)
            yield table, slope, near_ball(rng, table, slope)
            yield table, slope, free_ball(rng, table, slope, great=True)


class TestIsBall(unittest.TestCase):
    def test_some(self):
        ball = (SPOT, (1, 3), (1, 4))
        self.assertIs(is_ball(BENT, ball), True)
        for thing in ((SPOT, (1, 3), (2, 8)), (SPOT, (0, 1), (1, 4)), (SPOT, (1, 1), (1, 4)), (SPOT, (3, 2), (1, 4)),
                      (SPOT, (1, 3), (1, 1)), (SPOT, (1, 3), (4, 3)), (SPOT, (-1, 3), (1, 4)),
                      (SPOT, (1, -3), (1, 4)), (SPOT, (-1, -3), (1, 4)), (SPOT, (0, 3), (1, 4)), (SPOT, (3, 3), (1, 4)),
                      (SPOT, (True, 3), (1, 4)), (SPOT, (1, 3), [1, 4]), [SPOT, (1, 3), (1, 4)],
                      (list(SPOT), (1, 3), (1, 4)), (SPOT, (1, 3)), (SPOT, (1, 3), (1, 4), 0),
                      ((0, 0, 0, False), (1, 3), (1, 4)), ((3, 0, 0, 0), (1, 3), (1, 4)), ((0, 0, 0, 1), (1, 3), (1, 4)),
                      (SPOT, 0, (1, 4)), (SPOT, (1, 3), Fraction(1, 4)), (SPOT, (1, 0), (1, 4)), (SPOT, (0, 0), (1, 4))):
            self.assertIs(is_ball(BENT, thing), False, thing)

    def test_labels_of_other_tables(self):
        ball = ((1, 0, 1, 1), (1, 3), (1, 4))
        self.assertEqual([is_ball(table, ball) for table in (PAIR, DIAL, BENT, SEVERAL)], [True, False, False, True])

    def test_great_numbers(self):
        self.assertIs(is_ball(ONE, (SPOT, (1, GREAT), (GREAT - 1, GREAT))), True)
        self.assertIs(is_ball(ONE, (SPOT, (2, GREAT), (GREAT - 1, GREAT))), False)
        self.assertIs(is_ball(ONE, (SPOT, (GREAT, GREAT - 1), (1, 2))), False)

    def test_values_of_any_kind(self):
        for thing in plain.odd_values():
            self.assertIs(is_ball(PAIR, thing), False)
            self.assertIs(is_ball(PAIR, (thing, (1, 2), (1, 2))), judges.label(PAIR, thing))
            self.assertIs(is_ball(PAIR, (SPOT, thing, (1, 2))), judged_part(thing))
            self.assertIs(is_ball(PAIR, (SPOT, (1, 2), thing)), judged_part(thing))
            self.assertIs(is_ball(PAIR, (SPOT, (thing, 2), (1, 2))), thing == 1 and thing is not True)

    def test_one_part_otherwise(self):
        rng = random.Random(1)
        for table in (ONE, PAIR, SEVERAL):
            for _ in range(600):
                thing = judges.otherwise(rng, random_ball(rng, table))
                good = judges.parts(thing, 3) and judges.label(table, thing[0])
                self.assertIs(is_ball(table, thing), good and judged_part(thing[1]) and judged_part(thing[2]))


def judged_part(thing):
    if not judges.parts(thing, 2) or not all(judges.whole(item, 1) for item in thing):
        return False
    return thing[0] < thing[1] and gcd(*thing) == 1


class TestMeetsCorners(unittest.TestCase):
    def test_some(self):
        self.assertIs(meets_corners((SPOT, (1, 3), (1, 4)), (1, 1)), False)
        self.assertIs(meets_corners((SPOT, (1, 2), (1, 2)), (1, 1)), True)
        self.assertEqual([meets_corners((SPOT, (1, 2), (1, 2)), slope) for slope in ((3, 1), (1, 2), (2, 1), (5, 3))],
                         [True, False, False, True])
        self.assertIs(meets_corners((SPOT, (1, 3), (2, 3)), (1, 2)), True)

    def test_against_whole_points_ahead(self):
        rng = random.Random(2)
        for slope in SLOPES + ((40, 39), (1, 60)):
            for _ in range(20):
                for ball in (random_ball(rng, BENT), meeting_ball(rng, BENT, slope), near_ball(rng, BENT, slope)):
                    self.assertIs(meets_corners(ball, slope), bool(lines.corners_ahead(ball, slope)))


class TestGone(unittest.TestCase):
    def test_some(self):
        ball = (SPOT, (1, 3), (1, 4))
        self.assertEqual(gone(BENT, ball, (1, 1)), ((1, 0, 1, 0), (1, 3), (1, 4)))
        self.assertEqual(gone(BENT, ball, (1, 2))[0], (2, 1, 1, 0))
        # Above the diagonal it goes up first, below it to the side: about a HOLE this is not the same.
        self.assertEqual([gone(BENT, (SPOT, x, y), (1, 1))[0] for x, y in (((1, 3), (1, 4)), ((1, 4), (1, 3)))],
                         [(1, 0, 1, 0), (2, 1, 0, 0)])

    def test_against_the_lines_one_by_one(self):
        for table, slope, ball in some_balls(30, 201):
            told = gone(table, ball, slope)
            self.assertEqual(told, lines.gone(table, ball, slope))
            self.assertIs(is_ball(table, told), True)

    def test_long_slopes(self):
        rng = random.Random(3)
        for table in (ENDING, DIAL, SEVERAL):
            for slope in ((601, 600), (1, 999), (999, 2), (377, 610)):
                for ball in (free_ball(rng, table, slope), near_ball(rng, table, slope)):
                    self.assertEqual(gone(table, ball, slope), lines.gone(table, ball, slope))
                    self.assertEqual(row_under(table, ball, slope),
                                     row_of(table, lines.label_under(table, ball, slope), slope))

    def test_longest_slopes(self):
        rng = random.Random(4)
        for slope in ((4000, 3999), (7999, 1), (1, 7999), (4181, 2584)):
            ball = free_ball(rng, ENDING, slope, great=True)
            here = ball
            for _ in range(round_of(ENDING, ball, slope)):
                here = gone(ENDING, here, slope)
            self.assertEqual(here, ball)


class TestRounds(unittest.TestCase):
    def test_some(self):
        ball = (SPOT, (1, 3), (1, 4))
        self.assertEqual(row_under(BENT, ball, (1, 2)), ((0, 0, 1, 0), (2, 1, 0, 0)))
        self.assertEqual([strip_at(BENT, ball, (1, 2)), round_of(BENT, ball, (1, 2)), round_of(BENT, ball, (1, 1))],
                         [0, 2, 6])

    def test_gone_so_often_it_is_as_it_was_and_not_ahead(self):
        longest = 0
        for table, slope, ball in some_balls(30, 202):
            many = round_of(table, ball, slope)
            here = ball
            for done in range(1, many + 1):
                here = gone(table, here, slope)
                self.assertEqual(here == ball, done == many)
            longest = max(longest, many)
        self.assertTrue(longest > 6)

    def test_the_row_under_it(self):
        for table, slope, ball in some_balls(30, 203):
            row = row_under(table, ball, slope)
            self.assertEqual(row, row_of(table, lines.label_under(table, ball, slope), slope))
            self.assertIn(row, rows_of(table, slope))
            self.assertEqual(round_of(table, ball, slope), len(row))
            self.assertIn(row, strips_of(table, slope)[strip_at(table, ball, slope)][1])
            # Gone on, it goes in the same ROW.
            self.assertEqual(row_under(table, gone(table, ball, slope), slope), row)

    def test_balls_of_one_row_come_round_together(self):
        rng = random.Random(5)
        for table in (BENT, ENDING, DIAL, AGAINST, SEVERAL):
            for slope in ((1, 1), (1, 2), (3, 2)):
                by_row = {}
                for _ in range(60):
                    ball = free_ball(rng, table, slope)
                    by_row.setdefault(row_under(table, ball, slope), set()).add(round_of(table, ball, slope))
                self.assertTrue(len(by_row) > 1)
                self.assertTrue(all(rounds == {len(row)} for row, rounds in by_row.items()))

    def test_just_above_a_corner(self):
        # A ball just above the line of its own CORNER goes in the ROW of its LABEL.
        for table in plain.tables(15, seed=204, most=4, marks=2):
            for slope in SLOPES:
                for label in plain.all_labels(table)[:5]:
                    p, q = slope
                    x = Fraction(1, GREAT)
                    y = (q * x + Fraction(1, 10 * GREAT)) / p
                    ball = (label, part(x), part(y))
                    self.assertEqual(row_under(table, ball, slope), row_of(table, label, slope))


class TestMetCorner(unittest.TestCase):
    def test_some(self):
        self.assertEqual(met_corner(BENT, (SPOT, (1, 2), (1, 2)), (1, 1)), ((1, 2), (1, 0, 1, 0)))
        self.assertIsNone(met_corner(BENT, (SPOT, (1, 3), (1, 4)), (1, 1)))
        # On the way of the SHOT itself it comes to what the SHOT comes to.
        self.assertEqual(met_corner(BOX, (SPOT, (2, 3), (1, 3)), (2, 1)), ((2, 3), (0, 0, 1, 0)))
        self.assertEqual(shot(BOX, SPOT, (2, 1)), ("falls", "b", 0, 1))

    def test_the_dial(self):
        self.assertEqual(met_corner(DIAL, (SPOT, (1, 2), (1, 2)), (1, 1)), ((1, 2), (0, 1, 1, 1)))
        # Once over the right edge, which turns the dial; at the CORNER over the left one, which does not.
        self.assertEqual(met_corner(DIAL, (SPOT, (1, 2), (1, 4)), (2, 1)), ((3, 4), (0, 0, 1, 1)))

    def test_against_all_whole_points_ahead(self):
        rng = random.Random(6)
        times = set()
        for table in plain.tables(30, seed=205, most=5, marks=3):
            for slope in SLOPES + ((8, 5), (1, 30)):
                ball = meeting_ball(rng, table, slope)
                told = met_corner(table, ball, slope)
                self.assertEqual(told, lines.met_corner(table, ball, slope))
                self.assertIs(is_label(table, told[1]), True)
                times.add(told[0])
                self.assertIsNone(met_corner(table, free_ball(rng, table, slope), slope))
        self.assertTrue(len(times) > 100)

    def test_great_numbers(self):
        rng = random.Random(7)
        for slope in ((4000, 3999), (1, 7999), (377, 610)):
            ball = ball_at_height(rng, ENDING, slope, rng.randint(1 - slope[1], slope[0] - 1), great=True)
            self.assertEqual(met_corner(ENDING, ball, slope), lines.met_corner(ENDING, ball, slope))

    def test_it_goes_on_as_a_shot(self):
        # From the CORNER that it meets it goes the way of the STRETCHES from there.
        rng = random.Random(8)
        for slope in ((3, 2), (2, 5)):
            ball = meeting_ball(rng, TORUS, slope)
            self.assertEqual(met_corner(TORUS, ball, slope)[1], ball[0])


class TestNoShot(unittest.TestCase):
    def test_exactly_if_the_line_meets_corners(self):
        rng = random.Random(9)
        for table in (ONE, BENT, ENDING, DIAL, SEVERAL):
            for slope in SLOPES:
                for _ in range(4):
                    for ball in (random_ball(rng, table), meeting_ball(rng, table, slope), near_ball(rng, table, slope)):
                        for call in (gone, row_under, strip_at, round_of):
                            if lines.height(ball, slope).denominator == 1:
                                with self.assertRaises(NoShot):
                                    call(table, ball, slope)
                            else:
                                call(table, ball, slope)


if __name__ == "__main__":
    unittest.main()
