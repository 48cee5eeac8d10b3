"""[32] and [9]: what is told by remainders."""

import random
import unittest
from math import gcd
from unittest import mock

from hownarrow.errors import TooMany
from hownarrow.graphs import graph_of
from hownarrow.leastgraph import is_least, least_of, outcome_by, rounds_by
from hownarrow.remainders import are_unlike, is_told_by, level_of, marks_many, remainder_table, unlike_slopes
from tests import judges, plain, trees
from tests.plain import BOX, DIAL, ELL, ONE, PAIR, STRIP, TORUS

SPOT = (0, 0, 0, 0)
PLAIN = least_of(graph_of(BOX, SPOT))
TURNING = least_of(graph_of(DIAL, SPOT))
ALONE = least_of(graph_of(TORUS, SPOT))
# Any LEAST GRAPH will do, not only such as come of TABLES: one letter goes round, the other one exchanges two.
MADE = tuple([(("round", at + 1), (at + 1) % 5, {0: 1, 1: 0}.get(at, at)) for at in range(5)])


def plain_marks(least, number, most=20000):
    """The set of all MARKS, by going through WORDS; None if there are more than most."""
    start = (0, (1 % number, 0), (0, 1 % number))
    met = {start}
    waiting = [start]
    for row, first, second in waiting:
        both = ((first[0] + second[0]) % number, (first[1] + second[1]) % number)
        for there in ((least[row][1], first, both), (least[row][2], both, second)):
            if there not in met:
                met.add(there)
                waiting.append(there)
        if len(met) > most:
            return None
    return met


def plain_table(least, number, marks):
    """The dict from REMAINDERS to the set of all OUTCOMES."""
    found = {}
    for row, first, second in marks:
        slope = ((first[0] + second[0]) % number, (first[1] + second[1]) % number)
        found.setdefault(slope, set()).add(least[row][0])
    return found


def some_least(many, seed, most=60, rows=40):
    rng = random.Random(seed)
    found = [PLAIN, TURNING, ALONE, MADE, least_of(graph_of(PAIR, SPOT)), least_of(graph_of(STRIP, SPOT))]
    for table in plain.tables(many, seed=seed, most=4, marks=2):
        graph = trees.graph(table, rng.choice(plain.all_labels(table)), most=most)
        if graph is not None and len(least_of(graph)) <= rows:
            found.append(least_of(graph))
    return found


class TestLevel(unittest.TestCase):
    def test_some(self):
        self.assertEqual([level_of(PLAIN), level_of(TURNING), level_of(ALONE), level_of(MADE)], [2, 4, 1, 5])
        self.assertIs(is_least(MADE), True)

    def test_least_common_multiple(self):
        for least in some_least(30, 181):
            level = 1
            for one in rounds_by(least, "l"):
                level = level * len(one) // gcd(level, len(one))
            self.assertEqual(level_of(least), level)

    def test_told_by_some_number_just_if_by_the_level(self):
        told = untold = 0
        for least in some_least(40, 182):
            level = level_of(least)
            try:
                by_level = is_told_by(least, level)
            except TooMany:
                continue
            for number in (1, 2, 3, 4, 5, 6, 8, 12):
                try:
                    by_number = is_told_by(least, number)
                except TooMany:
                    continue
                if by_number:
                    self.assertIs(by_level, True)
                if by_level and number % level == 0:
                    self.assertIs(by_number, True)
            told += by_level
            untold += not by_level
        self.assertTrue(told > 10 and untold > 2)


class TestMarks(unittest.TestCase):
    def test_some(self):
        self.assertEqual([marks_many(PLAIN, 1), marks_many(PLAIN, 2), marks_many(PLAIN, 3)], [6, 6, 144])
        self.assertEqual([marks_many(ALONE, number) for number in (1, 2, 3, 4, 5, 6, 7)], [1, 6, 24, 48, 120, 144, 336])

    def test_by_going_through_all(self):
        for least in some_least(25, 183):
            for number in (1, 2, 3, 4, 5, 7, 9):
                marks = plain_marks(least, number)
                if marks is None:
                    with self.assertRaises(TooMany):
                        marks_many(least, number)
                else:
                    self.assertEqual(marks_many(least, number), len(marks))

    def test_around_the_bound(self):
        # All couples of remainders with a determinant of 1, and just one row.
        for number in range(25, 45):
            many = number ** 3
            for prime in (2, 3, 5, 7, 11, 13, 17, 19, 23, 29, 31, 37, 41, 43):
                if number % prime == 0:
                    many = many // prime ** 2 * (prime ** 2 - 1)
            if many > 20000:
                with self.assertRaises(TooMany) as caught:
                    marks_many(ALONE, number)
                self.assertEqual(caught.exception.most, 20000)
            else:
                self.assertEqual(marks_many(ALONE, number), many)
        self.assertEqual([marks_many(ALONE, number) for number in (27, 28, 30)], [17496, 16128, 17280])

    def test_just_as_many(self):
        for least, number in ((PLAIN, 3), (MADE, 2), (ALONE, 6)):
            many = marks_many(least, number)
            with mock.patch("hownarrow.remainders.MOST", many):
                self.assertEqual(marks_many(least, number), many)
            with mock.patch("hownarrow.remainders.MOST", many - 1):
                with self.assertRaises(TooMany):
                    marks_many(least, number)

    def test_too_many(self):
        for least, number in ((ALONE, 29), (ALONE, 100000), (PLAIN, 33), (TURNING, 17), (PLAIN, 99991)):
            for call in (marks_many, is_told_by, remainder_table, unlike_slopes):
                with self.assertRaises(TooMany) as caught:
                    call(least, number)
                self.assertEqual(caught.exception.most, 20000)


class TestToldBy(unittest.TestCase):
    def test_some(self):
        self.assertEqual([is_told_by(PLAIN, number) for number in (1, 2, 3, 4, 6)], [False, True, False, True, True])
        self.assertEqual([is_told_by(TURNING, number) for number in (1, 2, 4, 8)], [False, False, True, True])
        self.assertEqual([is_told_by(ALONE, number) for number in (1, 2, 3)], [True, True, True])
        self.assertEqual(remainder_table(PLAIN, 2), {
            (0, 1): ("falls", "b", 0, 1), (1, 0): ("falls", "c", 0, 1), (1, 1): ("falls", "d", 0, 1)})
        self.assertEqual(remainder_table(ALONE, 1), {(0, 0): ("round", 1)})
        self.assertIsNone(remainder_table(PLAIN, 3))

    def test_by_all_marks(self):
        for least in some_least(20, 184):
            for number in (1, 2, 3, 4, 6):
                marks = plain_marks(least, number)
                if marks is None:
                    continue
                found = plain_table(least, number, marks)
                told = all(len(outcomes) == 1 for outcomes in found.values())
                self.assertIs(is_told_by(least, number), told)
                table = remainder_table(least, number)
                if not told:
                    self.assertIsNone(table)
                    continue
                self.assertEqual(list(table), sorted(found))
                self.assertEqual({slope: {outcome} for slope, outcome in table.items()}, found)

    def test_against_the_shots(self):
        shown = 0
        for table, label in ((BOX, SPOT), (DIAL, SPOT), (PAIR, SPOT), (STRIP, SPOT), (ELL, SPOT), (ONE, SPOT)):
            least = least_of(graph_of(table, label))
            for number in (1, 2, 3, 4, 6):
                by_remainders = remainder_table(least, number)
                for slope in plain.slopes(17):
                    if by_remainders is not None:
                        outcome = by_remainders[(slope[0] % number, slope[1] % number)]
                        self.assertEqual(plain.ball(table, label, slope)[0], outcome)
                        shown += 1
        self.assertTrue(shown > 800)

    def test_new_dicts(self):
        remainder_table(PLAIN, 2).clear()
        self.assertEqual(len(remainder_table(PLAIN, 2)), 3)


class TestUnlike(unittest.TestCase):
    def test_what_unlike_slopes_tells(self):
        found = 0
        for least in some_least(30, 185):
            for number in (1, 2, 3, 4, 5, 6, 7):
                try:
                    told = unlike_slopes(least, number)
                except TooMany:
                    continue
                self.assertIs(is_told_by(least, number), told is None)
                if told is None:
                    continue
                self.assertIsInstance(told, tuple)
                one, other = told
                self.assertTrue(judges.slope(one) and judges.slope(other))
                self.assertEqual([here % number for here in one], [here % number for here in other])
                outcomes = [least[trees.go_along(least, 0, trees.words_to(sum(slope))[slope])][0]
                            for slope in told if sum(slope) < 60]
                self.assertEqual(len(set(outcomes)), len(outcomes))
                self.assertIs(are_unlike(least, number, told), True)
                self.assertIs(are_unlike(least, number, told[::-1]), True)
                found += 1
        self.assertTrue(found > 20)

    def test_some(self):
        self.assertIs(are_unlike(PLAIN, 3, ((1, 1), (4, 1))), True)
        self.assertIs(are_unlike(PLAIN, 3, ((1, 1), (7, 1))), False)
        self.assertIs(are_unlike(PLAIN, 2, ((1, 1), (4, 1))), False)
        self.assertIs(are_unlike(PLAIN, 1, ((1, 1), (2, 1))), True)
        self.assertIsNone(unlike_slopes(PLAIN, 2))

    def test_ends_that_are_no_slopes(self):
        for thing in (((1, 0), (1, 2)), ((0, 1), (2, 1)), ((1, 1), (2, 2)), ((2, 4), (1, 1)), ((1, 1), (-2, 1))):
            self.assertIs(are_unlike(PLAIN, 1, thing), False)

    def test_sixty_digits(self):
        great = 10 ** 60
        outcome = {(1, 1): "d", (0, 1): "b", (1, 0): "c"}
        rng = random.Random(1)
        for number in (1, 3, 5, 9973, 100000):
            for _ in range(20):
                slopes = []
                while len(slopes) < 2:
                    p, q = rng.randrange(1, great), rng.randrange(1, great)
                    if slopes and rng.random() < 0.8:
                        p, q = p - p % number + slopes[0][0] % number, q - q % number + slopes[0][1] % number
                    if gcd(p, q) == 1:
                        slopes.append((p, q))
                one, other = slopes
                same = [here % number for here in one] == [here % number for here in other]
                names = [outcome[(p % 2, q % 2)] for p, q in slopes]
                self.assertEqual([outcome_by(PLAIN, slope)[1] for slope in slopes], names)
                self.assertIs(are_unlike(PLAIN, number, tuple(slopes)), same and names[0] != names[1])

    def test_it_raises_nothing(self):
        self.assertIs(are_unlike(PLAIN, 100000, ((1, 1), (100001, 1))), False)
        self.assertIs(are_unlike(PLAIN, 99999, ((1, 1), (100000, 1))), True)

    def test_values_of_any_kind(self):
        for thing in plain.odd_values():
            self.assertIs(are_unlike(PLAIN, 1, thing), False)
            for other in ((1, 1), (2, 1)):
                # Of BOX all is told by what is even and what is odd.
                unlike = judges.slope(thing) and [here % 2 for here in thing] != [here % 2 for here in other]
                self.assertIs(are_unlike(PLAIN, 1, (thing, other)), unlike)
                self.assertIs(are_unlike(PLAIN, 1, (other, thing)), unlike)
            self.assertIs(are_unlike(PLAIN, 1, ((2, thing), (1, 1))), thing is not True and type(thing) is int
                          and thing > 0 and thing % 2 == 1)
        for thing in ([(1, 1), (2, 1)], ((1, 1), [2, 1]), ((1, True), (2, 1)), ((1, 1), (2, 1), (2, 1))):
            self.assertIs(are_unlike(PLAIN, 1, thing), False)


if __name__ == "__main__":
    unittest.main()
