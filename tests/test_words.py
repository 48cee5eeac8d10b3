"""[21]: words of SLOPES."""

import random
import unittest

from hownarrow.words import exchanged, neighbours_of, range_of, runs_of, slope_of, word_by, word_of
from tests import trees

FIBONACCI = "lr" * 10000


def random_word(rng, most):
    """A WORD with short runs and long ones."""
    word = ""
    while len(word) < most:
        word += rng.choice("lr") * rng.choice((1, 1, 2, 3, 17, 60))
    return word[:rng.randint(0, most)]


class TestThereAndBack(unittest.TestCase):
    def test_short_ones(self):
        self.assertEqual([word_of((1, 1)), word_of((2, 1)), word_of((1, 2)), word_of((5, 2)), word_of((2, 5))],
                         ["", "l", "r", "llr", "rrl"])
        self.assertEqual([slope_of(""), slope_of("l"), slope_of("r"), slope_of("llr"), slope_of("rrl")],
                         [(1, 1), (2, 1), (1, 2), (5, 2), (2, 5)])

    def test_all_words_of_some_letters(self):
        for word in trees.words(9):
            slope = slope_of(word)
            self.assertEqual(slope, trees.middle(word))
            self.assertEqual(word_of(slope), word)

    def test_all_slopes_up_to_a_sum(self):
        for slope, word in trees.words_to(90).items():
            self.assertEqual(word_of(slope), word)
            self.assertEqual(slope_of(word), slope)

    def test_p_or_q_one(self):
        for many in (2, 3, 100, 4000, 20001):
            self.assertEqual(word_of((many, 1)), "l" * (many - 1))
            self.assertEqual(word_of((1, many)), "r" * (many - 1))
            self.assertEqual(slope_of("l" * (many - 1)), (many, 1))
            self.assertEqual(slope_of("r" * (many - 1)), (1, many))

    def test_numbers_up_to_4000(self):
        self.assertEqual(word_of((4000, 3999)), "l" + "r" * 3998)
        self.assertEqual(word_of((3999, 4000)), "r" + "l" * 3998)
        self.assertEqual(word_of((2, 3999)), "r" * 1999 + "l")
        self.assertEqual(word_of((4000, 1999)), "ll" + "r" * 999 + "l")

    def test_letters_by_turns(self):
        one, other = 1, 1
        for many in range(201):
            self.assertEqual(slope_of(("lr" * 100)[:many]), (one, other))
            self.assertEqual(slope_of(("rl" * 100)[:many]), (other, one))
            one, other = one + other, one

    def test_200_letters(self):
        rng = random.Random(5)
        for _ in range(60):
            word = random_word(rng, 200)
            slope = slope_of(word)
            self.assertEqual(slope, trees.middle(word))
            self.assertEqual(word_of(slope), word)
        for word in ("l" * 200, "r" * 200, "lr" * 100, "rl" * 100, "l" * 100 + "r" * 100):
            self.assertEqual(word_of(slope_of(word)), word)

    def test_20000_letters(self):
        rng = random.Random(6)
        for word in (FIBONACCI, FIBONACCI[1:] + "r", "l" * 20000, "r" * 20000, "l" * 10000 + "r" * 10000,
                     "".join([rng.choice("lr") for _ in range(20000)])):
            slope = slope_of(word)
            self.assertEqual(word_of(slope), word)
            first, second = neighbours_of(word)
            self.assertEqual(slope, (first[0] + second[0], first[1] + second[1]))


class TestNeighbours(unittest.TestCase):
    def test_some(self):
        self.assertEqual(neighbours_of(""), ((1, 0), (0, 1)))
        self.assertEqual(neighbours_of("l"), ((1, 0), (1, 1)))
        self.assertEqual(neighbours_of("r"), ((1, 1), (0, 1)))
        self.assertEqual(neighbours_of("llr"), ((3, 1), (2, 1)))

    def test_all_words_of_some_letters(self):
        for word in trees.words(9):
            first, second = neighbours_of(word)
            self.assertEqual((first, second), trees.below(word))
            self.assertEqual(first[0] * second[1], first[1] * second[0] + 1)
            self.assertEqual(range_of(word), (first, second))
        self.assertEqual(range_of("l"), ((1, 0), (1, 1)))

    def test_a_range_holds_just_longer_words(self):
        slopes = trees.words_to(40)
        for word in trees.words(5) + ["llllllll", "rrrrrrrl", "lrlrlr"]:
            within = range_of(word)
            for slope, other in slopes.items():
                self.assertEqual(trees.inside(within, slope), other.startswith(word), (word, other))

    def test_a_range_of_a_long_word(self):
        rng = random.Random(7)
        for _ in range(30):
            word = random_word(rng, 190)
            within = range_of(word)
            for more in trees.words(3) + ["l" * 10, "r" * 10]:
                self.assertTrue(trees.inside(within, slope_of(word + more)))
            for at in range(len(word)):
                # Shorter ones, and those that part from it.
                self.assertFalse(trees.inside(within, slope_of(word[:at])))
                other = word[:at] + ("l" if word[at] == "r" else "r") + word[at + 1:]
                self.assertFalse(trees.inside(within, slope_of(other)))


class TestRuns(unittest.TestCase):
    def test_runs_of(self):
        self.assertEqual(runs_of(""), ())
        self.assertEqual(runs_of("l"), (("l", 1),))
        self.assertEqual(runs_of("r"), (("r", 1),))
        self.assertEqual(runs_of("llr"), (("l", 2), ("r", 1)))
        self.assertEqual(runs_of("rlrrl"), (("r", 1), ("l", 1), ("r", 2), ("l", 1)))
        self.assertEqual(runs_of("l" * 200), (("l", 200),))
        self.assertEqual(runs_of("lr" * 100), (("l", 1), ("r", 1)) * 100)

    def test_word_by(self):
        self.assertEqual(word_by([("l", 1), ("l", 1), ("r", 1), ("l", 0)]), "llr")
        self.assertEqual(word_by((("r", 2), ("r", 0), ("r", 1), ("l", 3))), "rrrlll")
        self.assertEqual([word_by([]), word_by(()), word_by([("l", 0)]), word_by((("r", 0), ("l", 0)))], [""] * 4)
        self.assertEqual(word_by([("r", 0), ("l", 20000)]), "l" * 20000)

    def test_there_and_back(self):
        rng = random.Random(8)
        for word in trees.words(7) + [random_word(rng, 200) for _ in range(40)]:
            runs = runs_of(word)
            self.assertIsInstance(runs, tuple)
            self.assertEqual(word_by(runs), word)
            self.assertEqual(word_by(list(runs)), word)
            self.assertTrue(all(many > 0 for _, many in runs))
            self.assertTrue(all(one[0] != other[0] for one, other in zip(runs, runs[1:])))

    def test_arguments_stay(self):
        runs = [("l", 1), ("r", 0), ("l", 2)]
        word_by(runs)
        self.assertEqual(runs, [("l", 1), ("r", 0), ("l", 2)])


class TestExchanged(unittest.TestCase):
    def test_some(self):
        self.assertEqual([exchanged(""), exchanged("l"), exchanged("r"), exchanged("llr")], ["", "r", "l", "rrl"])

    def test_the_slope_is_mirrored(self):
        rng = random.Random(9)
        for word in trees.words(7) + [random_word(rng, 200) for _ in range(20)]:
            other = exchanged(word)
            self.assertEqual(slope_of(other), slope_of(word)[::-1])
            self.assertEqual(exchanged(other), word)


if __name__ == "__main__":
    unittest.main()
