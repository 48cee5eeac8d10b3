"""[24]: wishes, and which OUTCOMES they MEET."""

import random
import unittest

from hownarrow.balls import shot
from hownarrow.forms import is_wish
from hownarrow.wishes import both, everything, is_within, meets, wish_for
from tests import plain, trees
from tests.plain import BOX, DIAL, ELL, ONE, SEVERAL

NAMES = ("", "a", "b")
ALL_FALLS = [("falls", name, mark, many) for name in NAMES for mark in (0, 1, 2) for many in range(1, 7)]
OUTCOMES = ALL_FALLS + [("round", many) for many in range(1, 7)]


def random_wish(rng):
    names = tuple(name for name in NAMES if rng.random() < 0.5)
    marks = tuple(mark for mark in (0, 1, 2) if rng.random() < 0.5)
    least = rng.randint(1, 5)
    return (names, marks, least, rng.randint(least, 5), rng.random() < 0.5)


class TestMeets(unittest.TestCase):
    def test_names_and_marks(self):
        wish = (("", "b"), (0, 2), 1, 9, False)
        self.assertIs(meets(wish, ("falls", "", 0, 1)), True)
        self.assertIs(meets(wish, ("falls", "b", 2, 9)), True)
        self.assertIs(meets(wish, ("falls", "a", 0, 1)), False)
        self.assertIs(meets(wish, ("falls", "b", 1, 1)), False)
        self.assertIs(meets(wish, ("falls", "bb", 0, 1)), False)

    def test_no_names_and_no_marks(self):
        for names, marks in (((), (0,)), (("a",), ()), ((), ())):
            self.assertIs(meets((names, marks, 1, 9, True), ("falls", "a", 0, 1)), False)
            self.assertIs(meets((names, marks, 1, 9, True), ("round", 1)), True)
            self.assertIs(meets((names, marks, 1, 9, False), ("round", 1)), False)

    def test_numbers_of_stretches(self):
        for rounds in (True, False):
            wish = (("a",), (0,), 3, 5, rounds)
            for many in range(1, 9):
                self.assertIs(meets(wish, ("falls", "a", 0, many)), many in (3, 4, 5))
                self.assertIs(meets(wish, ("round", many)), rounds and many in (3, 4, 5))
        self.assertIs(meets((("a",), (0,), 7, 7, False), ("falls", "a", 0, 7)), True)
        self.assertIs(meets((("a",), (0,), 1000, 1000, True), ("round", 1000)), True)

    def test_beside_a_plain_one(self):
        rng = random.Random(1)
        for _ in range(200):
            wish = random_wish(rng)
            self.assertEqual([meets(wish, outcome) for outcome in OUTCOMES],
                             [trees.meets(wish, outcome) for outcome in OUTCOMES])


class TestEverything(unittest.TestCase):
    def test_some(self):
        self.assertEqual(everything(ONE), (("",), (0,), 1, 4, True))
        self.assertEqual(everything(BOX), (("", "a", "b", "c", "d"), (0,), 1, 4, True))
        self.assertEqual(everything(DIAL), (("", "a", "b", "c", "d"), (0, 1), 1, 8, True))
        # One name for two pockets stands just once.
        self.assertEqual(everything(SEVERAL), (("", "a", "b"), (0, 1, 2), 1, 48, True))

    def test_all_shots_are_met(self):
        rng = random.Random(2)
        for table in plain.tables(60, seed=41):
            wish = everything(table)
            self.assertTrue(is_wish(wish))
            for slope in rng.sample(plain.slopes(12), 3):
                self.assertTrue(meets(wish, shot(table, rng.choice(plain.all_labels(table)), slope)))


class TestWishFor(unittest.TestCase):
    def test_falls_alone(self):
        falls = [("falls", "b", 2, 4), ("falls", "", 0, 9), ("falls", "b", 0, 5)]
        self.assertEqual(wish_for(falls), (("", "b"), (0, 2), 4, 9, False))
        self.assertEqual(wish_for(tuple(falls)), (("", "b"), (0, 2), 4, 9, False))
        self.assertEqual(falls, [("falls", "b", 2, 4), ("falls", "", 0, 9), ("falls", "b", 0, 5)])

    def test_rounds_alone(self):
        self.assertEqual(wish_for([("round", 4)]), ((), (), 4, 4, True))
        self.assertEqual(wish_for((("round", 4), ("round", 2), ("round", 4))), ((), (), 2, 4, True))

    def test_both_kinds(self):
        self.assertEqual(wish_for([("round", 8), ("falls", "a", 3, 2)]), (("a",), (3,), 2, 8, True))
        self.assertEqual(wish_for([("falls", "a", 3, 8), ("round", 2)]), (("a",), (3,), 2, 8, True))
        self.assertIs(wish_for([("falls", "a", 0, 1)])[4], False)

    def test_all_are_met(self):
        rng = random.Random(3)
        for _ in range(200):
            told = [rng.choice(OUTCOMES) for _ in range(rng.randint(1, 5))]
            wish = wish_for(told)
            self.assertTrue(is_wish(wish))
            self.assertTrue(all(meets(wish, outcome) for outcome in told))
            # Nothing can be left out of it.
            names, marks, least, most, rounds = wish
            less = [(names[1:], marks, least, most, rounds), (names, marks[:-1], least, most, rounds),
                    (names, marks, least + 1, most, rounds), (names, marks, least, most - 1, rounds),
                    (names, marks, least, most, False)]
            for other in less:
                if other != wish:
                    self.assertFalse(all(meets(other, outcome) for outcome in told))


class TestBoth(unittest.TestCase):
    def test_some(self):
        one, other = (("", "a", "c"), (0, 1, 3), 2, 6, True), (("a", "b", "c"), (1, 2, 3), 4, 9, True)
        self.assertEqual(both(one, other), (("a", "c"), (1, 3), 4, 6, True))
        self.assertEqual(both(one, other[:4] + (False,)), (("a", "c"), (1, 3), 4, 6, False))

    def test_nothing_in_common(self):
        one, other = (("a",), (0,), 1, 6, True), (("b",), (1,), 6, 9, False)
        self.assertEqual(both(one, other), ((), (), 6, 6, False))

    def test_least_above_most(self):
        one, other = (("a",), (0,), 1, 5, True), (("a",), (0,), 6, 9, True)
        self.assertIsNone(both(one, other))
        self.assertIsNone(both(other, one))

    def test_beside_all_outcomes(self):
        rng = random.Random(4)
        for _ in range(400):
            one, other = random_wish(rng), random_wish(rng)
            told = both(one, other)
            self.assertEqual(told, both(other, one))
            if told is None:
                self.assertTrue(one[2] > other[3] or other[2] > one[3])
                continue
            self.assertTrue(is_wish(told))
            for outcome in OUTCOMES:
                self.assertEqual(meets(told, outcome), trees.meets(one, outcome) and trees.meets(other, outcome))


class TestIsWithin(unittest.TestCase):
    def test_each_way_about(self):
        less, more = (("a",), (0,), 2, 3, False), (("", "a"), (0, 1), 1, 4, True)
        self.assertIs(is_within(less, more), True)
        self.assertIs(is_within(more, less), False)
        self.assertIs(is_within(less, less), True)
        self.assertIs(is_within(more, more), True)

    def test_one_part_beyond(self):
        one = (("a", "b"), (0, 1), 2, 5, True)
        for other in ((("a",), (0, 1), 2, 5, True), (("a", "b"), (1,), 2, 5, True), (("a", "b"), (0, 1), 3, 5, True),
                      (("a", "b"), (0, 1), 2, 4, True), (("a", "b"), (0, 1), 2, 5, False)):
            self.assertIs(is_within(one, other), False)
            self.assertIs(is_within(other, one), True)

    def test_what_meets_nothing(self):
        narrow = (("z",), (9,), 1, 1, False)
        for one in (((), (0,), 1, 9, False), (("a",), (), 1, 9, False), ((), (), 5, 5, False)):
            self.assertIs(is_within(one, narrow), True)
            self.assertIs(is_within(one, one), True)
            self.assertIs(is_within(narrow, one), False)

    def test_rounds_without_names_or_marks(self):
        # Its names are no matter, as there are no marks.
        one = (("a",), (), 2, 3, True)
        self.assertIs(is_within(one, ((), (), 2, 3, True)), True)
        self.assertIs(is_within(one, ((), (), 1, 2, True)), False)
        self.assertIs(is_within(one, (("a",), (0,), 2, 3, False)), False)
        self.assertIs(is_within(((), (4,), 2, 3, True), ((), (), 1, 9, True)), True)

    def test_beside_all_outcomes(self):
        # Numbers are up to 5 here, names and marks are three: these OUTCOMES are enough to part two WISHES.
        rng = random.Random(5)
        seen = {True: 0, False: 0}
        for _ in range(3000):
            one, other = random_wish(rng), random_wish(rng)
            told = all(trees.meets(other, outcome) for outcome in OUTCOMES if trees.meets(one, outcome))
            self.assertIs(is_within(one, other), told, (one, other))
            seen[told] += 1
        self.assertTrue(min(seen.values()) > 200)

    def test_within_everything(self):
        for table in (BOX, DIAL, ELL):
            wish = everything(table)
            self.assertTrue(is_within(wish_for([shot(table, (0, 0, 0, 0), slope) for slope in plain.slopes(9)]), wish))


if __name__ == "__main__":
    unittest.main()
