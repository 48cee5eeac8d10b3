"""[29]: the same letters told again and again."""

import random
import unittest
from unittest import mock

from hownarrow.balls import shot
from hownarrow.errors import TooMany
from hownarrow.pictures import outcome_at, picture_at
from hownarrow.rounds import along, slope_along
from hownarrow.words import slope_of, word_of
from tests import plain, trees
from tests.plain import BOX, DIAL, ELL, ONE, PAIR, STRIP, TORUS

SPOT = (0, 0, 0, 0)


class TestAlong(unittest.TestCase):
    def test_one_letter(self):
        self.assertEqual(along(BOX, SPOT, "", "l"), (("falls", "d", 0, 1), ("falls", "b", 0, 1)))
        self.assertEqual(along(BOX, SPOT, "", "r"), (("falls", "d", 0, 1), ("falls", "c", 0, 1)))
        self.assertEqual(along(BOX, SPOT, "", "ll"), (("falls", "d", 0, 1),))
        self.assertEqual([along(PAIR, SPOT, "", letter) for letter in "rl"],
                         [(("round", 4),), (("round", 4), ("round", 2))])

    def test_several_letters(self):
        self.assertEqual([outcome[1] for outcome in along(BOX, SPOT, "", "lr")], ["d", "c", "b"])
        self.assertEqual([outcome[1] for outcome in along(BOX, SPOT, "l", "lr")], ["b", "c", "d"])
        self.assertEqual(along(STRIP, SPOT, "", "r"), (("round", 2), ("round", 1)))
        self.assertEqual(along(STRIP, SPOT, "r", "r"), (("round", 1), ("round", 2)))

    def test_one_item(self):
        for table in (TORUS, ONE):
            for word in ("", "l", "lrrl" * 50):
                for more in ("l", "r", "rl", "llr" * 60):
                    self.assertEqual(along(table, SPOT, word, more), (shot(table, SPOT, (1, 1)),))

    def test_against_the_shots_one_by_one(self):
        rng = random.Random(1)
        for table in plain.tables(30, seed=91, most=4, marks=2):
            label = rng.choice(plain.all_labels(table))
            word, more = rng.choice(trees.words(4)), rng.choice(trees.words(3)[1:])
            try:
                told = along(table, label, word, more)
            except TooMany:
                continue
            for many in range(min(len(told) + 3, 9)):
                slope = trees.middle(word + more * many)
                if sum(slope) <= 8000:
                    self.assertEqual(shot(table, label, slope), told[many % len(told)])

    def test_up_to_the_first_one_again(self):
        rng = random.Random(2)
        for table in plain.tables(30, seed=92, most=4, marks=2):
            label = rng.choice(plain.all_labels(table))
            word, more = rng.choice(trees.words(5)), rng.choice(trees.words(4)[1:])
            first = here = trees.picture(table, label, word)
            expected = []
            while not expected or here != first:
                expected.append(trees.outcome(here))
                for letter in more:
                    here = trees.led(here, letter)
                if len(expected) > 300:
                    break
            else:
                self.assertEqual(along(table, label, word, more), tuple(expected))

    def test_remainders(self):
        # The item whose index is the remainder, for numbers of times far beyond the length.
        rng = random.Random(3)
        for table, label in ((BOX, SPOT), (DIAL, SPOT), (ELL, SPOT), (PAIR, (1, 0, 1, 1)), (trees.LATER, SPOT)):
            for word, more in (("", "l"), ("", "r"), ("", "lr"), ("rl", "llr"), ("lr" * 100, "rrl"), ("l" * 200, "r")):
                told = along(table, label, word, more)
                for many in (0, len(told) - 1, len(told), 3 * len(told) + 1, rng.randint(1, 1000), 1000):
                    slope = slope_along(word, more, many)
                    self.assertEqual(outcome_at(table, label, slope), told[many % len(told)])

    def test_long_words(self):
        rng = random.Random(4)
        for _ in range(4):
            word, more = ["".join([rng.choice("lr") for _ in range(200)]) for _ in range(2)]
            told = along(ELL, SPOT, word, more)
            self.assertEqual(picture_at(ELL, SPOT, word + more * len(told)), picture_at(ELL, SPOT, word))
            self.assertEqual(told[-1], outcome_at(ELL, SPOT, slope_along(word, more, len(told) - 1)))
            for many in range(1, len(told)):
                self.assertNotEqual(picture_at(ELL, SPOT, word + more * many), picture_at(ELL, SPOT, word))

    def test_too_many(self):
        for word, more in (("", "lr"), ("lr", "lr"), ("", "rl")):
            with self.assertRaises(TooMany) as caught:
                along(trees.LONG_ROUND, SPOT, word, more)
            self.assertEqual(caught.exception.most, 4000)

    def test_just_as_many(self):
        # The bound is 4,000; here it is drawn nearer, to see what is on it and what is beyond it.
        many = len(along(ELL, SPOT, "", "lr"))
        self.assertTrue(many > 1)
        with mock.patch("hownarrow.rounds.MOST", many):
            self.assertEqual(len(along(ELL, SPOT, "", "lr")), many)
        with mock.patch("hownarrow.rounds.MOST", many - 1):
            with self.assertRaises(TooMany):
                along(ELL, SPOT, "", "lr")

    def test_where_the_graph_is_too_great(self):
        # The graph is not made, so its size is no matter.
        for table in (trees.BEYOND, trees.FAR_BEYOND, trees.MANY_ENDS):
            for more in ("l", "r"):
                told = along(table, SPOT, "", more)
                self.assertTrue(1 < len(told) < 400)
                for many in range(len(told) + 2):
                    slope = (many + 1, 1) if more == "l" else (1, many + 1)
                    self.assertEqual(shot(table, SPOT, slope), told[many % len(told)])


class TestSlopeAlong(unittest.TestCase):
    def test_some(self):
        self.assertEqual([slope_along("", "l", 5), slope_along("lr", "rl", 0)], [(6, 1), (3, 2)])
        self.assertEqual([slope_along("", "l", 1000), slope_along("", "r", 1000)], [(1001, 1), (1, 1001)])
        self.assertEqual([slope_along("l", "r", many) for many in (0, 1, 2, 1000)],
                         [(2, 1), (3, 2), (4, 3), (1002, 1001)])

    def test_beside_the_word_itself(self):
        rng = random.Random(5)
        for _ in range(60):
            word, more = rng.choice(trees.words(6)), rng.choice(trees.words(6)[1:])
            for many in (0, 1, 2, 3, 4, 5, 7, 8, 15, 16, 17):
                self.assertEqual(slope_along(word, more, many), slope_of(word + more * many))

    def test_0_1_and_1000(self):
        rng = random.Random(6)
        for _ in range(4):
            word = "".join([rng.choice("lr") for _ in range(rng.randint(0, 200))])
            more = "".join([rng.choice("lr") for _ in range(rng.randint(1, 19))])
            for many in (0, 1, 1000):
                slope = slope_along(word, more, many)
                self.assertEqual(slope, slope_of(word + more * many))
                self.assertEqual(word_of(slope), word + more * many)

    def test_numbers_of_any_size(self):
        p, q = slope_along("lr" * 100, "rl" * 100, 1000)
        self.assertTrue(p.bit_length() > 130000)
        self.assertEqual(word_of((p, q))[:206], "lr" * 100 + "rlrlrl")


if __name__ == "__main__":
    unittest.main()
