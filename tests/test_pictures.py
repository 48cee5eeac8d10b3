"""[23], [5] and [10]: pictures, and that the SHOT does what the picture tells."""

import random
import unittest

from hownarrow.balls import shot, stretch
from hownarrow.forms import is_picture
from hownarrow.pictures import first_picture, led, numbered, outcome_at, outcome_of, picture_at, picture_of
from hownarrow.squares import label_of, number_of, sides_of, ups_of
from hownarrow.words import slope_of, word_of
from tests import plain, trees
from tests.plain import AGAINST, BENT, BOX, DIAL, ELL, ENDING, ONE, PAIR, SEVERAL, STRIP, TORUS

SPOT = (0, 0, 0, 0)
LONG = ((4000, 3999), (3999, 1), (1, 4000), (2584, 1597), (31, 87), (2, 3999), (100, 101))


def some(table, rng, many):
    labels = plain.all_labels(table)
    return rng.sample(labels, min(many, len(labels)))


def random_pair(rng, many):
    """Two PERMUTATIONS of many, and kinds."""
    one, other = list(range(many)), list(range(many))
    rng.shuffle(one)
    rng.shuffle(other)
    kinds = [rng.choice((None, None, ("a", 0), ("", 3), ("home", 1))) for _ in range(many)]
    return tuple(one), tuple(other), tuple(kinds)


class TestNumbered(unittest.TestCase):
    def test_what_cannot_be_come_to(self):
        kinds = (None, ("a", 0), ("b", 1), None)
        self.assertEqual(numbered((0, 1, 2, 3), (0, 1, 2, 3), kinds), ((0,), (0,), (None,)))
        self.assertEqual(numbered((2, 1, 0, 3), (0, 1, 2, 3), kinds), ((1, 0), (0, 1), (None, ("b", 1))))
        self.assertEqual(numbered((2, 1, 0, 3), (0, 3, 2, 1), kinds), ((1, 0), (0, 1), (None, ("b", 1))))
        self.assertEqual(numbered((0, 2, 1), (2, 1, 0), (("a", 0), ("b", 0), ("c", 0))),
                         ((0, 2, 1), (1, 0, 2), (("a", 0), ("c", 0), ("b", 0))))

    def test_of_one(self):
        self.assertEqual(numbered((0,), (0,), (("", 7),)), ((0,), (0,), (("", 7),)))

    def test_sides_are_met_ahead_of_ups(self):
        self.assertEqual(numbered((2, 0, 1), (1, 2, 0), ("x", "y", "z")), ((1, 2, 0), (2, 0, 1), ("x", "z", "y")))

    def test_beside_a_plain_one(self):
        rng = random.Random(1)
        for _ in range(300):
            sides, ups, kinds = random_pair(rng, rng.randint(1, 12))
            if rng.random() < 0.5:
                # Parts that are not led to one another.
                sides = tuple(sides[at] if sides[at] % 2 == at % 2 else at for at in range(len(sides)))
                ups = tuple(range(len(ups)))
                sides = sides if len(set(sides)) == len(sides) else tuple(range(len(sides)))
            told = numbered(sides, ups, kinds)
            self.assertEqual(told, trees.relabelled(sides, ups, kinds, 0))
            self.assertTrue(is_picture(told))
            self.assertEqual(numbered(*told), told)


class TestFirstPicture(unittest.TestCase):
    def test_some(self):
        self.assertEqual(first_picture(BOX, SPOT), ((1, 0, 3, 2), (2, 3, 0, 1),
                                                    (("a", 0), ("c", 0), ("b", 0), ("d", 0))))
        self.assertEqual(first_picture(BOX, (0, 1, 1, 0)), ((1, 0, 3, 2), (2, 3, 0, 1),
                                                            (("d", 0), ("b", 0), ("c", 0), ("a", 0))))
        self.assertEqual(first_picture(TORUS, SPOT), ((0,), (0,), (None,)))
        self.assertEqual(first_picture(STRIP, SPOT), ((0, 1), (1, 0), (None, None)))
        self.assertEqual(first_picture(ONE, SPOT), ((1, 0, 3, 2), (2, 3, 0, 1), (None,) * 4))

    def test_dials_and_gates(self):
        # At its right edge the dial is turned, at its left one it is not.
        self.assertEqual(first_picture(DIAL, SPOT), (
            (1, 3, 4, 5, 6, 0, 7, 2), (2, 4, 0, 6, 1, 7, 3, 5),
            (("a", 0), ("c", 1), ("b", 0), ("a", 1), ("d", 1), ("c", 0), ("b", 1), ("d", 0)),
        ))
        sides, ups, kinds = first_picture(PAIR, SPOT)
        self.assertEqual((len(sides), kinds), (8, (None,) * 8))
        # Behind the gate the dial is turned; it is turned back where the ball comes back.
        self.assertEqual(outcome_of((sides, ups, kinds)), ("round", 4))

    def test_holes(self):
        kinds = first_picture(BENT, SPOT)[2]
        self.assertEqual(kinds.count(("", 0)), 3)
        self.assertEqual(kinds.count(None), 9)
        self.assertEqual(set(first_picture(AGAINST, SPOT)[2]) - {None}, {("", 0), ("", 1), ("", 2)})

    def test_beside_a_plain_one(self):
        rng = random.Random(2)
        for table in plain.tables(60, seed=21):
            for label in some(table, rng, 3):
                told = first_picture(table, label)
                self.assertEqual(told, trees.picture(table, label, ""))
                self.assertTrue(is_picture(told))


class TestLed(unittest.TestCase):
    def test_some(self):
        first = first_picture(BOX, SPOT)
        self.assertEqual(led(first, "l"), (first[0], first[1], (("a", 0), ("c", 0), ("d", 0), ("b", 0))))
        self.assertEqual(led(first, "r"), (first[0], first[1], (("a", 0), ("d", 0), ("b", 0), ("c", 0))))

    def test_beside_a_plain_one(self):
        rng = random.Random(3)
        for _ in range(200):
            picture = numbered(*random_pair(rng, rng.randint(1, 14)))
            for letter in "lr":
                other = led(picture, letter)
                self.assertEqual(other, trees.led(picture, letter))
                self.assertTrue(is_picture(other))
                self.assertEqual(len(other[0]), len(picture[0]))
                self.assertEqual(other[2][0], picture[2][0])
                self.assertEqual(sorted(map(str, other[2])), sorted(map(str, picture[2])))

    def test_letter_by_letter_beside_picture_at(self):
        rng = random.Random(4)
        for table in plain.tables(25, seed=22):
            label = rng.choice(plain.all_labels(table))
            word = "".join([rng.choice("lr") for _ in range(12)])
            picture = first_picture(table, label)
            for at, letter in enumerate(word):
                self.assertEqual(picture_at(table, label, word[:at]), picture)
                picture = led(picture, letter)
            self.assertEqual(picture_at(table, label, word), picture)
            self.assertEqual(picture, trees.picture(table, label, word))
            self.assertEqual(picture_of(table, label, slope_of(word)), picture)

    def test_each_letter_comes_back(self):
        rng = random.Random(5)
        for table in plain.tables(25, seed=23):
            label = rng.choice(plain.all_labels(table))
            start = picture_at(table, label, "".join([rng.choice("lr") for _ in range(5)]))
            for letter in "lr":
                met = {start: True}
                here = led(start, letter)
                while here not in met and len(met) < 3000:
                    met[here] = True
                    here = led(here, letter)
                # One to one: what is met again first is the one from which it went out.
                self.assertEqual(here, start)

    def test_long_words(self):
        rng = random.Random(6)
        for word in ("lr" * 100, "l" * 200, "r" * 200, "".join([rng.choice("lr") for _ in range(200)])):
            for table in (SEVERAL, PAIR, ELL):
                self.assertEqual(picture_at(table, SPOT, word), trees.picture(table, SPOT, word))
        word = "".join([rng.choice("lr") for _ in range(20000)])
        self.assertEqual(picture_of(SEVERAL, SPOT, slope_of(word)), picture_at(SEVERAL, SPOT, word))
        self.assertEqual(picture_at(BOX, SPOT, word), trees.picture(BOX, SPOT, word))


class TestOutcomeOf(unittest.TestCase):
    def test_a_kind_at_0(self):
        # It is not asked ahead, but it is where one comes back.
        self.assertEqual(outcome_of(((0,), (0,), (("home", 2),))), ("falls", "home", 2, 1))
        self.assertEqual(outcome_of(((1, 0), (0, 1), (("", 0), None))), ("falls", "", 0, 2))
        self.assertEqual(outcome_of(((1, 0), (0, 1), (("", 0), ("a", 5)))), ("falls", "a", 5, 1))

    def test_none_anywhere(self):
        self.assertEqual(outcome_of(((0,), (0,), (None,))), ("round", 1))
        self.assertEqual(outcome_of(((1, 0), (0, 1), (None, None))), ("round", 2))
        self.assertEqual(outcome_of(((1, 2, 3, 4, 0), (0, 1, 2, 3, 4), (None,) * 5)), ("round", 5))

    def test_one_that_is_not_on_the_way(self):
        self.assertEqual(outcome_of(((1, 0), (1, 0), (None, ("a", 0)))), ("round", 1))

    def test_one_met_late(self):
        many = 128
        sides = tuple([(at + 1) % many for at in range(many)])
        ups = tuple(range(many))
        for late in (1, 2, 64, 127):
            kinds = tuple([("late", 3) if at >= late else None for at in range(many)])
            self.assertEqual(outcome_of((sides, ups, kinds)), ("falls", "late", 3, late))
        self.assertEqual(outcome_of((sides, ups, (None,) * many)), ("round", 128))

    def test_sides_and_then_ups(self):
        sides, ups = (1, 2, 0), (0, 2, 1)
        self.assertEqual(outcome_of((sides, ups, (None, ("one", 0), ("two", 0)))), ("falls", "two", 0, 1))

    def test_beside_a_plain_one(self):
        rng = random.Random(7)
        for _ in range(300):
            picture = numbered(*random_pair(rng, rng.randint(1, 14)))
            self.assertEqual(outcome_of(picture), trees.outcome(picture))


class TestOutcomeAt(unittest.TestCase):
    def test_some(self):
        self.assertEqual([outcome_at(BOX, SPOT, slope) for slope in ((2, 1), (3, 5), (1, 4))],
                         [("falls", "b", 0, 1), ("falls", "d", 0, 1), ("falls", "c", 0, 1)])
        self.assertEqual([outcome_at(PAIR, SPOT, slope) for slope in ((1, 1), (2, 1))], [("round", 4), ("round", 2)])
        self.assertEqual(outcome_at(ENDING, SPOT, (1, 1)), ("falls", "", 0, 1))

    def test_beside_shot_for_all_slopes_to_twelve(self):
        rng = random.Random(8)
        for table in plain.tables(60, seed=24):
            labels = plain.all_labels(table) if table[0] * table[1] < 3 else some(table, rng, 3)
            for label in labels:
                for slope in plain.slopes(12):
                    self.assertEqual(outcome_at(table, label, slope), shot(table, label, slope), (table, label, slope))

    def test_beside_a_plain_ball(self):
        rng = random.Random(9)
        for table in plain.tables(20, seed=25):
            for slope in rng.sample(plain.slopes(12), 4):
                label = rng.choice(plain.all_labels(table))
                self.assertEqual(outcome_at(table, label, slope), plain.ball(table, label, slope)[0])

    def test_longer_ones(self):
        rng = random.Random(10)
        for table in plain.tables(12, seed=26):
            for slope in rng.sample(plain.slopes(200), 4) + rng.sample(LONG, 1):
                label = rng.choice(plain.all_labels(table))
                self.assertEqual(outcome_at(table, label, slope), shot(table, label, slope))

    def test_great_numbers(self):
        # On one CELL with pockets all is told by what is odd.
        for word in ("lr" * 100, "l" * 100 + "r" * 99, "lr" * 10000):
            p, q = slope_of(word)
            expected = dict(plain.FOUR)[(0, p % 2, q % 2)]
            self.assertEqual(outcome_at(BOX, SPOT, (p, q)), ("falls", expected, 0, 1))


class TestWhy(unittest.TestCase):
    def test_sides_then_ups_is_a_stretch(self):
        rng = random.Random(11)
        for table in plain.tables(25, seed=27):
            for slope in rng.sample(plain.slopes(15), 4):
                sides, ups = sides_of(table), ups_of(table)
                for letter in word_of(slope):
                    if letter == "l":
                        ups = tuple([ups[at] for at in sides])
                    else:
                        sides = tuple([sides[at] for at in ups])
                for label in some(table, rng, 6):
                    there = label_of(table, ups[sides[number_of(table, label)]])
                    self.assertEqual(there, stretch(table, label, slope)[1])


if __name__ == "__main__":
    unittest.main()
