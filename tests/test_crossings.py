"""[22]: crossings, and the ways along NEIGHBOURS."""

import random
import unittest

from hownarrow.crossings import crossings_of, straight, way_of
from tests import plain, trees

LONG = ((7999, 1), (1, 7999), (4001, 3999), (3999, 4001), (2999, 5001), (4999, 3001), (4181, 2584), (123, 7877))


def letters(slope):
    """The lines that are crossed, one by one [2]."""
    return "".join(["u" if is_up else "s" for is_up in plain.crossings(slope)])


def exchange(text):
    return "".join([{"s": "u", "u": "s"}[letter] for letter in text])


class TestCrossings(unittest.TestCase):
    def test_some(self):
        told = {(1, 1): "", (2, 1): "s", (1, 2): "u", (3, 1): "ss", (3, 2): "sus", (2, 3): "usu", (5, 2): "ssuss",
                (1, 4): "uuu", (4, 3): "susus", (5, 3): "sussus"}
        for slope, text in told.items():
            self.assertEqual(crossings_of(slope), text)
            self.assertEqual(straight(slope), text + "su")

    def test_all_slopes_up_to_a_sum(self):
        for slope in plain.slopes(60):
            text = crossings_of(slope)
            self.assertEqual(text, letters(slope))
            self.assertEqual((text.count("s"), text.count("u")), (slope[0] - 1, slope[1] - 1))
            self.assertEqual(text, text[::-1])
            self.assertEqual(crossings_of(slope[::-1]), exchange(text))
            self.assertEqual(straight(slope), text + "su")

    def test_long_ones(self):
        for slope in LONG:
            self.assertEqual(crossings_of(slope), letters(slope))
            self.assertEqual(crossings_of(slope), crossings_of(slope)[::-1])
            self.assertEqual(straight(slope), letters(slope) + "su")


class TestWays(unittest.TestCase):
    def test_some(self):
        self.assertEqual([way_of(""), way_of("l"), way_of("r")], [("s", "u"), ("s", "su"), ("us", "u")])
        self.assertEqual([way_of("llr"), way_of("lr"), way_of("rl")], [("ssus", "ssu"), ("sus", "su"), ("us", "usu")])

    def test_ahead_and_behind_together(self):
        rng = random.Random(1)
        told = [word for _, word in sorted(trees.words_to(50).items())]
        told += ["".join([rng.choice("lr") for _ in range(12)]) for _ in range(10)]
        for word in told:
            ahead, behind = way_of(word)
            text = letters(trees.middle(word))
            self.assertEqual(ahead + behind, text + "su")
            self.assertEqual(behind + ahead, text + "us")
            first, second = trees.below(word)
            self.assertEqual((ahead.count("s"), ahead.count("u")), first)
            self.assertEqual((behind.count("s"), behind.count("u")), second)

    def test_a_letter_more(self):
        for word in trees.words(7):
            ahead, behind = way_of(word)
            self.assertEqual(way_of(word + "l"), (ahead, ahead + behind))
            self.assertEqual(way_of(word + "r"), (behind + ahead, behind))

    def test_long_ones(self):
        for word, slope in (("l" * 7998, (7999, 1)), ("r" * 7998, (1, 7999)), ("lr" * 8, (2584, 1597)),
                            ("l" + "r" * 3998, (4000, 3999)), ("r" * 1999 + "l", (2, 3999))):
            ahead, behind = way_of(word)
            self.assertEqual(ahead + behind, letters(slope) + "su")
            self.assertEqual(behind + ahead, letters(slope) + "us")


if __name__ == "__main__":
    unittest.main()
