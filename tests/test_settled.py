"""[27], [6] and [7]: what becomes of ALL SHOTS from a SPOT."""

import random
import unittest
from math import gcd

from hownarrow.balls import shot
from hownarrow.errors import TooMany
from hownarrow.graphs import graph_of
from hownarrow.settled import first_met, is_kept, outcomes_of, simplest_broken, simplest_met
from hownarrow.wishes import everything, wish_for
from tests import plain, trees
from tests.plain import BOX, DIAL, ELL, ONE, PAIR, STRIP, TORUS

SPOT = (0, 0, 0, 0)
NOTHING = ((), (), 1, 1000, False)


def some_spots(many, seed, most=5, marks=3):
    """(TABLE, SPOT) of TABLES whose graph is not too great."""
    rng = random.Random(seed)
    found = []
    for table in plain.tables(many, seed=seed, most=most, marks=marks):
        label = rng.choice(plain.all_labels(table))
        try:
            graph_of(table, label)
        except TooMany:
            continue
        found.append((table, label))
    return found


def random_wish(rng, outcomes):
    """A WISH for some of these OUTCOMES, or made of any parts of them."""
    names, marks, least, most, rounds = wish_for(rng.sample(outcomes, rng.randint(1, len(outcomes))))
    if rng.random() < 0.3:
        least, most, rounds = 1, rng.randint(1, 9), rng.random() < 0.5
    return (names, marks, least, most, rounds)


class TestOutcomesOf(unittest.TestCase):
    def test_some(self):
        self.assertEqual(outcomes_of(BOX, SPOT), {("falls", "b", 0, 1): (2, 1), ("falls", "c", 0, 1): (1, 2),
                                                  ("falls", "d", 0, 1): (1, 1)})
        self.assertEqual(outcomes_of(PAIR, SPOT), {("round", 2): (2, 1), ("round", 4): (1, 1)})
        self.assertEqual([outcomes_of(table, SPOT) for table in (TORUS, ONE)], [{("round", 1): (1, 1)},
                                                                                {("round", 2): (1, 1)}])
        self.assertEqual(outcomes_of(STRIP, SPOT), {("round", 1): (1, 2), ("round", 2): (1, 1)})

    def test_keys_are_ascending(self):
        for table, label in some_spots(60, 71):
            told = outcomes_of(table, label)
            self.assertEqual(list(told), sorted(told))

    def test_against_all_shots_step_by_step(self):
        for table, label in some_spots(25, 72):
            told = outcomes_of(table, label)
            first = {}
            for slope in plain.slopes(14):
                first.setdefault(shot(table, label, slope), slope)
            # Each OUTCOME of a SHOT is told, by the simplest SLOPE; none that is told to be simpler is missed.
            for outcome, slope in first.items():
                self.assertEqual(told[outcome], slope)
            for outcome, slope in told.items():
                if sum(slope) <= 14:
                    self.assertEqual(first[outcome], slope)
                else:
                    self.assertEqual(shot(table, label, slope), outcome)

    def test_the_simplest_slope_far_down(self):
        # From the SIMPLEST SLOPE on, with the ROW behind each; some OUTCOMES come late.
        late = 0
        for table, label in some_spots(60, 73) + [(table, SPOT) for table in (trees.NEARLY, trees.LATE, trees.LATER)]:
            graph = graph_of(table, label)
            told = outcomes_of(table, label)
            self.assertEqual(set(told), {trees.outcome(row[0]) for row in graph})
            most = max(map(sum, told.values()))
            first = {}
            for slope, at in trees.slopes_with_rows(graph, most):
                first.setdefault(trees.outcome(graph[at][0]), slope)
            self.assertEqual(first, told)
            late = max(late, most)
        self.assertEqual(late, 235)

    def test_new_dicts(self):
        told = outcomes_of(BOX, SPOT)
        told.clear()
        self.assertEqual(len(outcomes_of(BOX, SPOT)), 3)


class TestWishes(unittest.TestCase):
    def test_none(self):
        for table in (BOX, ELL, PAIR, DIAL):
            self.assertIsNone(simplest_broken(table, SPOT, everything(table)))
            self.assertIs(is_kept(table, SPOT, everything(table)), True)
            self.assertIsNone(simplest_met(table, SPOT, NOTHING))
            self.assertIs(is_kept(table, SPOT, NOTHING), False)
            self.assertEqual(simplest_broken(table, SPOT, NOTHING), (1, 1))
            self.assertEqual(simplest_met(table, SPOT, everything(table)), (1, 1))
            self.assertIsNone(first_met(table, SPOT, NOTHING, 60))

    def test_some(self):
        wish = (("", "a", "c"), (0,), 1, 2, False)
        self.assertEqual([is_kept(ELL, SPOT, wish), simplest_broken(ELL, SPOT, wish)], [False, (1, 4)])
        self.assertEqual(simplest_met(ELL, SPOT, (("a", "b"), (0,), 1, 9, False)), (1, 2))
        self.assertEqual(simplest_broken(PAIR, SPOT, ((), (), 4, 4, True)), (2, 1))
        self.assertEqual(simplest_met(PAIR, SPOT, ((), (), 2, 3, True)), (2, 1))

    def test_against_all_slopes(self):
        rng = random.Random(1)
        kept = met = 0
        for table, label in some_spots(30, 74, most=4):
            told = outcomes_of(table, label)
            for _ in range(6):
                wish = random_wish(rng, list(told))
                good = [slope for outcome, slope in told.items() if trees.meets(wish, outcome)]
                bad = [slope for outcome, slope in told.items() if not trees.meets(wish, outcome)]
                self.assertIs(is_kept(table, label, wish), not bad)
                self.assertEqual(simplest_broken(table, label, wish), min(bad, key=trees.simplicity, default=None))
                self.assertEqual(simplest_met(table, label, wish), min(good, key=trees.simplicity, default=None))
                kept += not bad
                met += bool(good)
        self.assertTrue(kept > 20 and met > 100)

    def test_too_many(self):
        for call in (lambda: outcomes_of(trees.BEYOND, SPOT), lambda: is_kept(trees.BEYOND, SPOT, NOTHING),
                     lambda: simplest_broken(trees.BEYOND, SPOT, NOTHING),
                     lambda: simplest_met(trees.BEYOND, SPOT, everything(trees.BEYOND))):
            with self.assertRaises(TooMany) as caught:
                call()
            self.assertEqual(caught.exception.most, 4000)


class TestFirstMet(unittest.TestCase):
    def test_at_a_bound(self):
        wish = (("b",), (0,), 1, 9, False)
        self.assertEqual(simplest_met(ELL, SPOT, wish), (1, 4))
        self.assertEqual([first_met(ELL, SPOT, wish, most) for most in (2, 4, 5, 6, 200)],
                         [None, None, (1, 4), (1, 4), (1, 4)])
        self.assertEqual(first_met(BOX, SPOT, (("d",), (0,), 1, 1, False), 2), (1, 1))
        self.assertIsNone(first_met(BOX, SPOT, (("b",), (0,), 1, 1, False), 2))

    def test_beside_simplest_met(self):
        rng = random.Random(2)
        for table, label in some_spots(40, 75):
            for outcome, slope in outcomes_of(table, label).items():
                if sum(slope) <= 200:
                    wish = wish_for([outcome])
                    self.assertEqual(first_met(table, label, wish, sum(slope)), slope)
                    self.assertEqual(first_met(table, label, wish, rng.randint(sum(slope), 200)), slope)
                    if sum(slope) > 2:
                        self.assertIsNone(first_met(table, label, wish, sum(slope) - 1))

    def test_where_the_graph_is_too_great(self):
        rng = random.Random(3)
        for table in (trees.BEYOND, trees.FAR_BEYOND, trees.MANY_ENDS):
            first = {}
            for slope in plain.slopes(20):
                first.setdefault(plain.ball(table, SPOT, slope)[0], slope)
            self.assertTrue(len(first) > 1)
            for outcome, slope in first.items():
                wish = wish_for([outcome])
                best = min([other for told, other in first.items() if trees.meets(wish, told)], key=trees.simplicity)
                self.assertEqual(first_met(table, SPOT, wish, rng.randint(20, 60)), best)
                self.assertEqual(first_met(table, SPOT, wish, sum(best)), best)
                if sum(best) > 2:
                    self.assertIsNone(first_met(table, SPOT, wish, sum(best) - 1))

    def test_up_to_200(self):
        # A strip of eight CELLS, closed: only a SLOPE with p divided by 8 comes round at once.
        ring = (8, 1, (1, 2, 3, 4, 5, 6, 7, 0), (0, 1, 2, 3, 4, 5, 6, 7), (), ())
        self.assertEqual(first_met(ring, SPOT, ((), (), 1, 1, True), 200), (8, 1))
        self.assertIsNone(first_met(ring, SPOT, ((), (), 1, 1, True), 8))
        self.assertIsNone(first_met(ring, SPOT, ((), (), 3, 3, True), 200))
        great = plain.random_table(random.Random(4), most=8)
        self.assertIsNone(first_met(great, SPOT, NOTHING, 200))


class TestRectangles(unittest.TestCase):
    """A rectangle with pockets in its corners: all is told by plain numbers."""

    def rectangle(self, wide, high):
        """The TABLE of wide times high CELLS, numbered row by row from below."""
        rights = [cell + 1 if cell % wide < wide - 1 else None for cell in range(wide * high)]
        ups = [cell + wide if cell < wide * (high - 1) else None for cell in range(wide * high)]
        corners = [(0, 0, 0), (wide * (high - 1), 0, 1), (wide - 1, 1, 0), (wide * high - 1, 1, 1)]
        pockets = sorted(zip(corners, ("home", "left", "low", "far")))
        return (wide * high, 1, tuple(rights), tuple(ups), (), tuple(pockets))

    def told(self, wide, high, slope):
        """The OUTCOME from the lower left corner: when both p and q times many are whole ways across."""
        p, q = slope
        aside, over = wide // gcd(wide, p), high // gcd(high, q)
        many = aside * over // gcd(aside, over)
        at = (many * p // wide % 2, many * q // high % 2)
        return ("falls", {(0, 0): "home", (0, 1): "left", (1, 0): "low", (1, 1): "far"}[at], 0, many)

    def sizes(self):
        return [(wide, high) for wide in range(1, 9) for high in range(1, 9) if wide * high <= 8]

    def test_outcomes_of(self):
        self.assertEqual(len(self.sizes()), 20)
        for wide, high in self.sizes():
            first = {}
            # What comes is told by the remainders by twice both lengths.
            for slope in plain.slopes(8 * wide * high + 4):
                first.setdefault(self.told(wide, high, slope), slope)
            told = outcomes_of(self.rectangle(wide, high), SPOT)
            self.assertEqual(told, first, (wide, high))
            self.assertNotIn("home", [outcome[1] for outcome in told])

    def test_each_shot(self):
        for wide, high in self.sizes():
            table = self.rectangle(wide, high)
            for slope in plain.slopes(9) + [(40, 39), (8, 25)]:
                self.assertEqual(shot(table, SPOT, slope), self.told(wide, high, slope))


if __name__ == "__main__":
    unittest.main()
