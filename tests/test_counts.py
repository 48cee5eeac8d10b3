"""[35]: how many WORDS, rows and SLOPES have each OUTCOME."""

import random
import unittest
from fractions import Fraction
from math import gcd

from hownarrow.counts import counts_by_depth, counts_to, shares
from hownarrow.errors import TooMany
from hownarrow.graphs import graph_of
from hownarrow.settled import outcomes_of
from tests import plain, trees
from tests.plain import BOX, DIAL, ELL, ONE, PAIR, TORUS

SPOT = (0, 0, 0, 0)


def some_spots(many, seed, most=300, cells=4):
    rng = random.Random(seed)
    found = []
    for table in plain.tables(many, seed=seed, most=cells, marks=2):
        label = rng.choice(plain.all_labels(table))
        rows = trees.graph(table, label, most=most)
        if rows is not None:
            found.append((table, label, rows))
    return found


def counted(outcomes):
    """The dict from all that stand in a list, ascending, to how often each does."""
    return {one: outcomes.count(one) for one in sorted(set(outcomes))}


class TestByDepth(unittest.TestCase):
    def test_depth_0(self):
        for table, label, rows in some_spots(10, 211):
            self.assertEqual(counts_by_depth(table, label, 0), [{trees.outcome(rows[0][0]): 1}])

    def test_against_all_words(self):
        for table, label, rows in some_spots(25, 212):
            told = counts_by_depth(table, label, 6)
            self.assertEqual(len(told), 7)
            for letters, counts in enumerate(told):
                outcomes = [trees.outcome(rows[trees.go_along(rows, 0, word)][0])
                            for word in trees.words(letters) if len(word) == letters]
                self.assertEqual(counts, counted(outcomes))
                self.assertEqual(list(counts), sorted(counts))

    def test_against_all_shots(self):
        for table, label, _ in some_spots(8, 213)[-6:]:
            for letters, counts in enumerate(counts_by_depth(table, label, 4)):
                outcomes = [plain.ball(table, label, trees.middle(word))[0]
                            for word in trees.words(letters) if len(word) == letters]
                self.assertEqual(counts, counted(outcomes))

    def test_two_to_the_letters_in_all(self):
        for table in (BOX, ELL, PAIR, DIAL, TORUS):
            told = counts_by_depth(table, SPOT, 200)
            self.assertEqual([sum(counts.values()) for counts in told], [2 ** letters for letters in range(201)])
            self.assertTrue(all(0 not in counts.values() for counts in told))
            self.assertEqual(told[:7], counts_by_depth(table, SPOT, 6))

    def test_none_left_out_and_none_of_none(self):
        # Of BOX the first WORD has one OUTCOME, those of one letter the two other ones.
        told = counts_by_depth(BOX, SPOT, 1)
        self.assertEqual(told, [{("falls", "d", 0, 1): 1}, {("falls", "b", 0, 1): 1, ("falls", "c", 0, 1): 1}])

    def test_new_each_time(self):
        told = counts_by_depth(BOX, SPOT, 2)
        self.assertEqual(len({id(counts) for counts in told}), 3)
        told[0].clear()
        self.assertEqual(len(counts_by_depth(BOX, SPOT, 2)[0]), 1)


class TestShares(unittest.TestCase):
    def test_some(self):
        self.assertEqual(shares(PAIR, SPOT), {("round", 2): (1, 3), ("round", 4): (2, 3)})
        self.assertEqual(shares(TORUS, SPOT), {("round", 1): (1, 1)})
        self.assertEqual(set(shares(BOX, SPOT).values()), {(1, 3)})

    def test_lowest_terms_and_one_in_all(self):
        for table, label, rows in some_spots(30, 214):
            told = shares(table, label)
            self.assertEqual(list(told), sorted(outcomes_of(table, label)))
            for top, bottom in told.values():
                self.assertEqual(gcd(top, bottom), 1)
            self.assertEqual(sum([Fraction(*one) for one in told.values()]), 1)
            outcomes = [trees.outcome(row[0]) for row in rows]
            for outcome, part in told.items():
                self.assertEqual(Fraction(*part), Fraction(outcomes.count(outcome), len(rows)))

    def test_the_same_behind_each_word_for_all_rows(self):
        for table, label, rows in some_spots(10, 215, most=80):
            told = shares(table, label)
            for word in ("", "l", "rrl", "lrlrllr"):
                outcomes = [trees.outcome(rows[trees.go_along(rows, at, word)][0]) for at in range(len(rows))]
                self.assertEqual({one: Fraction(many, len(rows)) for one, many in counted(outcomes).items()},
                                 {one: Fraction(*part) for one, part in told.items()})


class TestCountsTo(unittest.TestCase):
    def test_nothing(self):
        for most in (0, 1):
            self.assertEqual(counts_to(BOX, SPOT, most), {})
        self.assertEqual(counts_to(BOX, SPOT, 2), {("falls", "d", 0, 1): 1})
        self.assertEqual(counts_to(PAIR, SPOT, 5), {("round", 2): 3, ("round", 4): 6})

    def test_against_all_shots(self):
        for table, label, _ in some_spots(25, 216):
            outcomes = {slope: plain.ball(table, label, slope)[0] for slope in plain.slopes(12)}
            for most in (2, 3, 7, 12):
                told = counts_to(table, label, most)
                self.assertEqual(told, counted([outcomes[slope] for slope in plain.slopes(most)]))
                self.assertEqual(list(told), sorted(told))

    def test_twenty(self):
        for table in (ELL, DIAL, ONE):
            outcomes = [plain.ball(table, SPOT, slope)[0] for slope in plain.slopes(20)]
            self.assertEqual(counts_to(table, SPOT, 20), counted(outcomes))

    def test_1000(self):
        # Of BOX it is told by what is even: all SLOPES with p + q even are of two odd ones.
        slopes = plain.slopes(1000)
        names = {(1, 1): "d", (0, 1): "b", (1, 0): "c"}
        told = counts_to(BOX, SPOT, 1000)
        expected = {}
        for p, q in slopes:
            name = names[(p % 2, q % 2)]
            expected[name] = expected.get(name, 0) + 1
        self.assertEqual({outcome[1]: many for outcome, many in told.items()}, expected)
        for table in (DIAL, ELL):
            rows = trees.slopes_with_rows(graph_of(table, SPOT), 1000)
            behind = [trees.outcome(row[0]) for row in graph_of(table, SPOT)]
            expected = {}
            for _, at in rows:
                expected[behind[at]] = expected.get(behind[at], 0) + 1
            self.assertEqual(counts_to(table, SPOT, 1000), expected)
            self.assertEqual(sum(expected.values()), len(slopes))


class TestTooMany(unittest.TestCase):
    def test_all_three(self):
        for table in (trees.BEYOND, trees.FAR_BEYOND):
            for call in (lambda: counts_by_depth(table, SPOT, 0), lambda: shares(table, SPOT),
                         lambda: counts_to(table, SPOT, 0)):
                with self.assertRaises(TooMany) as caught:
                    call()
                self.assertEqual(caught.exception.most, 4000)

    def test_just_below(self):
        self.assertEqual(sum(counts_by_depth(trees.NEARLY, SPOT, 200)[200].values()), 2 ** 200)
        self.assertEqual(sum([Fraction(*part) for part in shares(trees.NEARLY, SPOT).values()]), 1)


if __name__ == "__main__":
    unittest.main()
