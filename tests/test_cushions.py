"""[36]: how often balls are thrown back."""

import random
import unittest
from math import gcd

from hownarrow.balls import shot, stretch, track
from hownarrow.cushions import cushions_of, fewest
from hownarrow.tables import joined_to
from hownarrow.wishes import everything, wish_for
from tests import plain, trees
from tests.plain import BENT, BOX, DIAL, ELL, ENDING, ONE, PAIR, SEVERAL, TORUS

SPOT = (0, 0, 0, 0)
NOTHING = ((), (), 1, 1000, False)


def plain_throws(table, label, slope):
    """How many THROWS a SHOT has, line by line."""
    ends, called = plain.falls(table), {corner: one[0] for one in plain.points(table) for corner in one}
    joints = plain.joints(table)
    here, many = label, 0
    while True:
        for is_up in plain.crossings(slope):
            cell, x, y, _ = here
            side = ("up" if y == 0 else "down") if is_up else ("right" if x == 0 else "left")
            many += (cell, side) not in joints
            here = plain.go(table, here, is_up)
        here = plain.go(table, plain.go(table, here, False), True)
        if here == label or called[here[:3]] in ends:
            return many


def rectangle(wide, high):
    """The TABLE of wide times high CELLS with a pocket in each of its corners."""
    rights = [cell + 1 if cell % wide < wide - 1 else None for cell in range(wide * high)]
    ups = [cell + wide if cell < wide * (high - 1) else None for cell in range(wide * high)]
    corners = [(0, 0, 0), (wide * (high - 1), 0, 1), (wide - 1, 1, 0), (wide * high - 1, 1, 1)]
    return (wide * high, 1, tuple(rights), tuple(ups), (), tuple(sorted(zip(corners, ("home", "left", "low", "far")))))


def told(wide, high, slope):
    """How many THROWS there are in a rectangle from its lower left corner."""
    p, q = slope
    aside, over = wide // gcd(wide, p), high // gcd(high, q)
    many = aside * over // gcd(aside, over)
    return many * p // wide - 1 + many * q // high - 1 - at_whole_points(wide, high, slope, many)


def at_whole_points(wide, high, slope, many):
    """How many cushions are met just at the ends of STRETCHES, where nothing is thrown."""
    p, q = slope
    return sum([(done * p % wide == 0) + (done * q % high == 0) for done in range(1, many)])


class TestCushionsOf(unittest.TestCase):
    def test_some(self):
        self.assertEqual([cushions_of(BOX, SPOT, (2, 1)), cushions_of(BOX, SPOT, (8, 3))], [1, 9])
        self.assertEqual([cushions_of(PAIR, SPOT, slope) for slope in ((2, 1), (1, 2), (2, 3), (1, 1))], [0, 4, 4, 0])

    def test_without_cushions(self):
        ring = (3, 1, (1, 2, 0), (0, 1, 2), (), ())
        for table in (TORUS, ring):
            for slope in plain.slopes(9) + [(40, 39), (4000, 3999), trees.middle("lr" * 50)]:
                self.assertEqual(cushions_of(table, SPOT, slope), 0)

    def test_nothing_is_thrown_at_corners(self):
        self.assertEqual([cushions_of(table, SPOT, (1, 1)) for table in (ONE, BOX, ELL, DIAL)], [0, 0, 0, 0])

    def test_line_by_line(self):
        rng = random.Random(1)
        rounds = falls = 0
        for table in plain.tables(50, seed=221):
            for slope in plain.slopes(7) + [(9, 8), (3, 10)]:
                label = rng.choice(plain.all_labels(table))
                self.assertEqual(cushions_of(table, label, slope), plain_throws(table, label, slope))
                comes = shot(table, label, slope)[0]
                rounds += comes == "round"
                falls += comes == "falls"
        self.assertTrue(rounds > 100 and falls > 100)

    def test_against_the_events_of_stretches(self):
        rng = random.Random(2)
        for table in plain.tables(12, seed=222, most=5):
            for slope in ((5, 3), (1, 9), (23, 14)):
                label = rng.choice(plain.all_labels(table))
                many = 0
                for start in track(table, label, slope)[:-1]:
                    many += sum([joined_to(table, edge) is None for edge, _ in stretch(table, start, slope)[0]])
                self.assertEqual(cushions_of(table, label, slope), many)

    def test_rectangles(self):
        for wide, high in ((1, 1), (2, 1), (3, 1), (3, 2), (2, 4), (1, 8), (4, 2)):
            table = rectangle(wide, high)
            for slope in plain.slopes(12):
                self.assertEqual(cushions_of(table, SPOT, slope), told(wide, high, slope))
                self.assertEqual(plain_throws(table, SPOT, slope), told(wide, high, slope))

    def test_far_beyond_8000(self):
        rng = random.Random(3)
        slopes = [(4000, 3999), (3999, 4000), (20001, 1), (1, 20001), (2, 30001)]
        for _ in range(12):
            slopes.append(trees.middle("".join([rng.choice("lr") for _ in range(200)])))
        slopes.append(trees.middle("llr" * 300))
        for wide, high in ((1, 1), (2, 1), (3, 2), (2, 4)):
            for slope in slopes:
                self.assertEqual(cushions_of(rectangle(wide, high), SPOT, slope), told(wide, high, slope))

    def test_words_of_20000_letters(self):
        for word in ("lr" * 10000, "l" * 19999 + "r", "r" * 20000):
            first, second = (1, 0), (0, 1)
            for letter in word:
                both = (first[0] + second[0], first[1] + second[1])
                first, second = (first, both) if letter == "l" else (both, second)
            slope = (first[0] + second[0], first[1] + second[1])
            self.assertEqual(cushions_of(BOX, SPOT, slope), sum(slope) - 2)

    def test_all_marks_and_cells(self):
        rng = random.Random(4)
        for _ in range(6):
            table = plain.random_table(rng)
            label = rng.choice(plain.all_labels(table))
            self.assertEqual(cushions_of(table, label, (89, 55)), plain_throws(table, label, (89, 55)))


class TestFewest(unittest.TestCase):
    def best(self, table, label, wish, most):
        """The tuple that fewest tells, out of all SLOPES."""
        found = []
        for slope in plain.slopes(most):
            if trees.meets(wish, plain.ball(table, label, slope)[0]):
                found.append((plain_throws(table, label, slope), trees.simplicity(slope), slope))
        return (min(found)[2], min(found)[0]) if found else None

    def test_some(self):
        self.assertEqual(fewest(BOX, SPOT, (("b",), (0,), 1, 9, False), 20), ((2, 1), 1))
        self.assertEqual(fewest(PAIR, SPOT, ((), (), 2, 2, True), 8), ((2, 1), 0))
        self.assertIsNone(fewest(PAIR, SPOT, ((), (), 3, 3, True), 8))

    def test_at_the_bound(self):
        wish = (("b",), (0,), 1, 9, False)
        self.assertEqual([fewest(BOX, SPOT, wish, most) for most in (0, 1, 2, 3, 4)],
                         [None, None, None, ((2, 1), 1), ((2, 1), 1)])
        self.assertEqual([fewest(BOX, SPOT, everything(BOX), most) for most in (0, 1, 2)], [None, None, ((1, 1), 0)])
        self.assertIsNone(fewest(BOX, SPOT, NOTHING, 200))

    def test_against_all_shots(self):
        rng = random.Random(5)
        not_the_simplest = 0
        for table in plain.tables(40, seed=223, most=5, marks=2):
            label = rng.choice(plain.all_labels(table))
            outcomes = [plain.ball(table, label, slope)[0] for slope in plain.slopes(10)]
            for _ in range(3):
                wish = wish_for(rng.sample(outcomes, rng.randint(1, 2)))
                most = rng.choice((3, 6, 10))
                best = self.best(table, label, wish, most)
                self.assertEqual(fewest(table, label, wish, most), best)
                met = [slope for slope in plain.slopes(most) if trees.meets(wish, shot(table, label, slope))]
                not_the_simplest += bool(met) and best[0] != met[0]
        self.assertTrue(not_the_simplest > 3)

    def test_the_simplest_of_several(self):
        # Without cushions all have none.
        self.assertEqual(fewest(TORUS, SPOT, everything(TORUS), 200), ((1, 1), 0))
        ring = (8, 1, (1, 2, 3, 4, 5, 6, 7, 0), (0, 1, 2, 3, 4, 5, 6, 7), (), ())
        self.assertEqual(fewest(ring, SPOT, ((), (), 1, 1, True), 200), ((8, 1), 0))
        self.assertEqual(fewest(ring, SPOT, ((), (), 2, 2, True), 200), ((4, 1), 0))

    def test_up_to_200(self):
        # In a long rectangle one throw more or less is told by plain numbers.
        table = rectangle(4, 2)
        wish = (("low",), (0,), 1, 99, False)
        found = []
        for slope in plain.slopes(200):
            if shot_name(4, 2, slope) == "low":
                found.append((told(4, 2, slope), trees.simplicity(slope), slope))
        self.assertEqual(fewest(table, SPOT, wish, 200), (min(found)[2], min(found)[0]))

    def test_where_the_graph_is_too_great(self):
        for table in (trees.BEYOND, trees.FAR_BEYOND, ENDING, SEVERAL, BENT):
            wish = wish_for([plain.ball(table, SPOT, (2, 3))[0]])
            self.assertEqual(fewest(table, SPOT, wish, 12), self.best(table, SPOT, wish, 12))


def shot_name(wide, high, slope):
    """The name of the pocket of a rectangle into which the ball falls."""
    p, q = slope
    aside, over = wide // gcd(wide, p), high // gcd(high, q)
    many = aside * over // gcd(aside, over)
    return {(0, 0): "home", (0, 1): "left", (1, 0): "low", (1, 1): "far"}[(many * p // wide % 2, many * q // high % 2)]


if __name__ == "__main__":
    unittest.main()
