"""[28] and [7]: however narrow a RANGE, what comes anywhere comes in it."""

import random
import unittest
from fractions import Fraction

from hownarrow.errors import TooMany
from hownarrow.graphs import graph_of
from hownarrow.narrow import nearest_above, nearest_below, simplest_shot, simplest_shots, word_within
from hownarrow.pictures import outcome_at
from hownarrow.ranges import node_in, simplest_in
from hownarrow.settled import outcomes_of
from hownarrow.wishes import everything, wish_for
from hownarrow.words import neighbours_of, range_of, slope_of, word_of
from tests import plain, trees
from tests.plain import BOX, DIAL, ELL, ENDING, ONE, PAIR, SEVERAL, STRIP, TORUS

SPOT = (0, 0, 0, 0)
ALL = ((1, 0), (0, 1))
LEFT = (("b",), (0,), 1, 9, False)
NOTHING = ((), (), 1, 1000, False)
SOME = ((BOX, SPOT), (DIAL, SPOT), (ELL, SPOT), (PAIR, SPOT), (STRIP, SPOT), (TORUS, SPOT), (ENDING, SPOT),
        (ELL, (2, 0, 1, 0)), (DIAL, (0, 1, 1, 1)))


def some_spots(many, seed, most=4, marks=2):
    """(TABLE, SPOT) of TABLES whose graph is not too great."""
    rng = random.Random(seed)
    found = list(SOME)
    for table in plain.tables(many, seed=seed, most=most, marks=marks):
        label = rng.choice(plain.all_labels(table))
        if trees.graph(table, label, most=400) is not None:
            found.append((table, label))
    return found


def random_word(rng, most):
    return "".join([rng.choice("lr") * rng.choice((1, 1, 2, 9)) for _ in range(rng.randint(0, most))])[:195]


def random_ranges(rng, many, letters):
    """RANGES with ENDS beneath one WORD, or with any ENDS."""
    found = [ALL, ((1, 0), (1, 1)), ((1, 1), (0, 1)), ((3, 1), (2, 1)), ((4, 3), (3, 4))]
    while len(found) < many + 5:
        stem = random_word(rng, letters)
        ends = []
        for _ in (0, 1):
            word = stem + random_word(rng, 2)
            ends.append(rng.choice([slope_of(word), *neighbours_of(word)]))
        ends.sort(key=lambda end: Fraction(end[1], end[0]) if end[0] else Fraction(10 ** 9))
        if trees.steeper(ends[1], ends[0]):
            found.append(tuple(ends))
    return found


def outcome_for(outcomes, wish):
    return [outcome for outcome in outcomes if trees.meets(wish, outcome)]


class TestSimplest(unittest.TestCase):
    def test_some(self):
        self.assertEqual([simplest_shot(BOX, SPOT, LEFT, within) for within in (ALL, ((3, 1), (2, 1)))],
                         [(2, 1), (8, 3)])
        self.assertEqual(simplest_shots(BOX, SPOT, ((3, 1), (2, 1))), {
            ("falls", "b", 0, 1): (8, 3), ("falls", "c", 0, 1): (5, 2), ("falls", "d", 0, 1): (7, 3)})
        self.assertEqual(simplest_shot(PAIR, SPOT, ((), (), 2, 2, True), ((1, 1), (0, 1))), (2, 3))
        self.assertEqual(simplest_shots(TORUS, SPOT, ((3, 1), (2, 1))), {("round", 1): (5, 2)})

    def test_none(self):
        for table in (BOX, ELL, PAIR):
            for within in (ALL, ((3, 1), (2, 1)), range_of("lr" * 100)):
                self.assertIsNone(simplest_shot(table, SPOT, NOTHING, within))
                self.assertIsNone(simplest_shot(table, SPOT, (("zzz",), (0,), 1, 99, False), within))

    def test_everywhere_it_is_what_settled_tells(self):
        for table, label in some_spots(20, 81) + [(trees.LATE, SPOT), (trees.LATER, SPOT)]:
            self.assertEqual(simplest_shots(table, label, ALL), outcomes_of(table, label))

    def test_against_all_slopes_from_the_simplest_one_on(self):
        rng = random.Random(1)
        for table, label in some_spots(16, 82):
            graph = trees.graph(table, label)
            outcomes = outcomes_of(table, label)
            for within in random_ranges(rng, 8, 4):
                told = simplest_shots(table, label, within)
                self.assertEqual(list(told), list(outcomes))
                word = word_of(simplest_in(within))
                start = trees.go_along(graph, 0, word)
                first = {}
                most = max(map(sum, told.values()))
                if most > 4000:
                    continue
                for slope, at in trees.slopes_in_with_rows(graph, within, start, word, most):
                    first.setdefault(trees.outcome(graph[at][0]), slope)
                self.assertEqual(told, first)

    def test_any_two_ends(self):
        rng = random.Random(2)
        ends = [(1, 0), (0, 1)] + plain.slopes(9)
        slopes = plain.slopes(60)
        for table, label in ((ELL, SPOT), (DIAL, SPOT)):
            outcomes = {slope: outcome_at(table, label, slope) for slope in slopes}
            for _ in range(60):
                within = tuple(rng.sample(ends, 2))
                if not trees.steeper(within[1], within[0]):
                    within = within[::-1]
                for outcome, slope in simplest_shots(table, label, within).items():
                    lying = [one for one in slopes if trees.inside(within, one) and outcomes[one] == outcome]
                    if sum(slope) <= 60:
                        self.assertEqual(slope, lying[0])
                    else:
                        self.assertEqual(lying, [])
                        self.assertEqual(outcome_at(table, label, slope), outcome)
                        self.assertTrue(trees.inside(within, slope))

    def test_narrow_ones_far_down(self):
        rng = random.Random(3)
        for table, label in SOME + ((SEVERAL, SPOT), (trees.LATER, SPOT)):
            try:
                outcomes = outcomes_of(table, label)
            except TooMany:
                continue
            words = ["lr" * 100, "l" * 200, "r" * 200, "l" * 100 + "r" * 99, "rl" * 50 + "l" * 80]
            for within in [range_of(word) for word in words] + random_ranges(rng, 4, 60):
                told = simplest_shots(table, label, within)
                self.assertEqual(set(told), set(outcomes))
                for outcome, slope in told.items():
                    self.assertTrue(trees.inside(within, slope))
                    self.assertEqual(outcome_at(table, label, slope), outcome)

    def test_beneath_a_word_all_is_as_behind_it(self):
        # In the RANGE of a WORD, against all WORDS that begin with it, up to some letters more.
        rng = random.Random(4)
        for table, label in SOME:
            graph = trees.graph(table, label)
            word = random_word(rng, 60)
            first, second = neighbours_of(word)
            told = simplest_shots(table, label, range_of(word))
            best = {}
            for slope, at in trees.slopes_in_with_rows(graph, range_of(word), trees.go_along(graph, 0, word), word,
                                                       12 * (sum(first) + sum(second)))[:5000]:
                best.setdefault(trees.outcome(graph[at][0]), slope)
            for outcome, slope in best.items():
                self.assertEqual(told[outcome], slope)

    def test_ends_that_were_returned(self):
        # ENDS of WORDS of 20,000 letters, and those whose numbers are very unlike.
        for within in (range_of("lr" * 10000), ((20001, 1), (20000, 1)), ((1, 0), (20001, 1))):
            for table in (ELL, DIAL):
                told = simplest_shots(table, SPOT, within)
                self.assertEqual(set(told), set(outcomes_of(table, SPOT)))
                for outcome, slope in told.items():
                    self.assertTrue(trees.inside(within, slope))
                    self.assertEqual(outcome_at(table, SPOT, slope), outcome)
                    self.assertEqual(simplest_shot(table, SPOT, wish_for([outcome]), within), slope)

    def test_simplest_shot_beside_simplest_shots(self):
        rng = random.Random(5)
        for table, label in some_spots(12, 83):
            for within in random_ranges(rng, 4, 8):
                told = simplest_shots(table, label, within)
                wish = wish_for(rng.sample(list(told), rng.randint(1, len(told))))
                best = min([told[outcome] for outcome in outcome_for(told, wish)], key=trees.simplicity)
                self.assertEqual(simplest_shot(table, label, wish, within), best)

    def test_new_dicts(self):
        simplest_shots(BOX, SPOT, ALL).clear()
        told = simplest_shots(BOX, SPOT, ALL)
        self.assertEqual(list(told), sorted(told))
        self.assertEqual(len(told), 3)


class TestWordWithin(unittest.TestCase):
    def test_some(self):
        self.assertEqual([word_within(BOX, SPOT, LEFT, within) for within in (((3, 1), (2, 1)), ALL)], ["llrl", "l"])
        self.assertIsNone(word_within(BOX, SPOT, NOTHING, ALL))

    def test_no_letter_more(self):
        # The node itself leads to what is wished for.
        self.assertEqual(word_within(BOX, SPOT, (("d",), (0,), 1, 1, False), ALL), "")
        for word in ("", "l", "lr", "lr" * 100, "r" * 200):
            self.assertEqual(word_within(BOX, SPOT, everything(BOX), range_of(word)), word)

    def test_where_several_are_as_short(self):
        either = (("b", "c"), (0,), 1, 1, False)
        self.assertEqual(word_within(BOX, SPOT, either, ALL), "l")
        self.assertEqual(word_within(BOX, SPOT, (("c",), (0,), 1, 1, False), ALL), "r")

    def test_against_all_words(self):
        rng = random.Random(6)
        longest = 0
        for table, label in some_spots(14, 84):
            graph = trees.graph(table, label)
            outcomes = outcomes_of(table, label)
            for within in random_ranges(rng, 5, 12):
                node = node_in(within)
                for outcome in outcomes:
                    wish = wish_for([outcome])
                    goals = [at for at, row in enumerate(graph) if trees.meets(wish, trees.outcome(row[0]))]
                    word = word_within(table, label, wish, within)
                    self.assertEqual(word, node + trees.least_way(graph, trees.go_along(graph, 0, node), goals))
                    self.assertTrue(trees.inside(within, slope_of(word)))
                    self.assertTrue(trees.meets(wish, outcome_at(table, label, slope_of(word))))
                    self.assertTrue(len(word) - len(node) < len(graph))
                    longest = max(longest, len(word) - len(node))
        self.assertTrue(longest > 3)


class TestNearest(unittest.TestCase):
    def nearest(self, table, label, wish, end, most, is_above):
        """The nearest SLOPE, out of all up to a sum."""
        found = [slope for slope in plain.slopes(most)
                 if (trees.steeper(slope, end) if is_above else trees.steeper(end, slope))
                 and trees.meets(wish, outcome_at(table, label, slope))]
        return (min if is_above else max)(found, key=trees.steepness, default=None)

    def test_some(self):
        self.assertEqual([nearest_below(BOX, SPOT, LEFT, (1, 1), 10), nearest_above(BOX, SPOT, LEFT, (1, 1), 10)],
                         [(4, 3), (4, 5)])
        self.assertEqual([nearest_above(BOX, SPOT, LEFT, (1, 1), 4), nearest_below(BOX, SPOT, LEFT, (0, 1), 7)],
                         [None, (2, 5)])

    def test_at_both_ends_of_all(self):
        both = everything(BOX)
        for most in (0, 1, 2, 3, 50):
            self.assertIsNone(nearest_below(BOX, SPOT, both, (1, 0), most))
            self.assertIsNone(nearest_above(BOX, SPOT, both, (0, 1), most))
        self.assertEqual([nearest_above(BOX, SPOT, both, (1, 0), most) for most in (0, 1, 2, 3, 1000)],
                         [None, None, (1, 1), (2, 1), (999, 1)])
        self.assertEqual([nearest_below(BOX, SPOT, both, (0, 1), most) for most in (0, 1, 2, 3, 1000)],
                         [None, None, (1, 1), (1, 2), (1, 999)])

    def test_the_end_itself_is_not_told(self):
        for end in ((1, 1), (2, 1), (3, 5)):
            self.assertNotEqual(nearest_below(BOX, SPOT, everything(BOX), end, 40), end)
            self.assertNotEqual(nearest_above(BOX, SPOT, everything(BOX), end, 40), end)
        self.assertIsNone(nearest_below(BOX, SPOT, everything(BOX), (1, 1), 2))
        self.assertIsNone(nearest_above(BOX, SPOT, everything(BOX), (1, 1), 2))

    def test_against_all_slopes(self):
        rng = random.Random(7)
        ends = [(1, 0), (0, 1), (4000, 3999), (1, 4000), slope_of("lr" * 100), neighbours_of("l" * 200)[1]]
        for table, label in some_spots(10, 85):
            outcomes = list(outcomes_of(table, label))
            for _ in range(8):
                end = rng.choice(ends + plain.slopes(12))
                most = rng.choice((0, 1, 2, 3, 5, 12, 30))
                wish = wish_for(rng.sample(outcomes, rng.randint(1, len(outcomes))))
                for is_above, call in ((False, nearest_below), (True, nearest_above)):
                    self.assertEqual(call(table, label, wish, end, most),
                                     self.nearest(table, label, wish, end, most, is_above), (table, label, end, most))

    def test_some_hundred_and_1000(self):
        rng = random.Random(8)
        for table, most in ((ELL, 300), (PAIR, 300), (DIAL, 300), (DIAL, 1000)):
            graph = graph_of(table, SPOT)
            behind = [trees.outcome(row[0]) for row in graph]
            rows = trees.slopes_with_rows(graph, most)
            outcome = rng.choice(list(outcomes_of(table, SPOT)))
            good = [slope for slope, at in rows if behind[at] == outcome]
            wish = wish_for([outcome])
            for end in ((1, 1), (7, 3), slope_of("rl" * 90)):
                below = [slope for slope in good if trees.steeper(end, slope)]
                above = [slope for slope in good if trees.steeper(slope, end)]
                # No two of these are so near to one another that this is not exact.
                self.assertEqual(nearest_below(table, SPOT, wish, end, most),
                                 max(below, key=lambda slope: slope[1] / slope[0]))
                self.assertEqual(nearest_above(table, SPOT, wish, end, most),
                                 min(above, key=lambda slope: slope[1] / slope[0]))

    def test_none_up_to_1000(self):
        self.assertIsNone(nearest_below(ONE, SPOT, NOTHING, (1, 1), 1000))
        self.assertIsNone(nearest_above(ONE, SPOT, NOTHING, (1, 0), 1000))


class TestTooMany(unittest.TestCase):
    def test_ahead_of_all_else(self):
        for wish in (everything(trees.BEYOND), NOTHING):
            for call in (lambda: simplest_shot(trees.BEYOND, SPOT, wish, ALL),
                         lambda: simplest_shots(trees.BEYOND, SPOT, ALL),
                         lambda: word_within(trees.BEYOND, SPOT, wish, ((3, 1), (2, 1))),
                         lambda: nearest_below(trees.BEYOND, SPOT, wish, (1, 0), 0),
                         lambda: nearest_above(trees.BEYOND, SPOT, wish, (0, 1), 0)):
                with self.assertRaises(TooMany) as caught:
                    call()
                self.assertEqual(caught.exception.most, 4000)

    def test_just_below(self):
        self.assertEqual(simplest_shot(trees.NEARLY, SPOT, everything(trees.NEARLY), ALL), (1, 1))
        self.assertEqual(set(simplest_shots(trees.NEARLY, SPOT, ((3, 1), (2, 1)))),
                         set(outcomes_of(trees.NEARLY, SPOT)))


if __name__ == "__main__":
    unittest.main()
