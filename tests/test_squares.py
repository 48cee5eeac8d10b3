"""[20]: LABELS as numbers, and PERMUTATIONS of them."""

import random
import unittest
from math import lcm

from hownarrow.squares import (
    kinds_of, label_of, number_of, often, one_then, order_of, rounds_of, sides_of, turned_back, turns_at, turns_of,
    ups_of,
)
from tests import plain
from tests.plain import AGAINST, BENT, BOX, ENDING, TORUS

GREAT = 10 ** 30


def permutations(many, seed=1):
    rng = random.Random(seed)
    return [tuple(rng.sample(range(size), size)) for size in (1, 2, 3, 4, 5, 7, 9, 12, 16) for _ in range(many)]


def rounds(one):
    """Those that lead to one another, gone after one by one."""
    found = set()
    for at in range(len(one)):
        together = {at}
        for _ in one:
            at = one[at]
            together.add(at)
        found.add(tuple(sorted(together)))
    return sorted(found)


class TestNumbers(unittest.TestCase):
    def test_there_and_back(self):
        for table in plain.tables(60):
            for number, label in enumerate(plain.all_labels(table)):
                self.assertEqual(number_of(table, label), number)
                self.assertEqual(label_of(table, number), label)

    def test_sides_and_ups(self):
        self.assertEqual([sides_of(BOX), ups_of(BOX)], [(2, 3, 0, 1), (1, 0, 3, 2)])
        self.assertEqual([sides_of(TORUS), ups_of(TORUS)], [(0, 1, 2, 3)] * 2)
        for table in plain.tables(60):
            labels = plain.all_labels(table)
            self.assertEqual(sides_of(table), tuple([labels.index(plain.go(table, one, False)) for one in labels]))
            self.assertEqual(ups_of(table), tuple([labels.index(plain.go(table, one, True)) for one in labels]))

    def test_kinds(self):
        hole = ("", 0)
        self.assertEqual(kinds_of(BENT), (None, None, None, hole, None, hole, None, None, None, None, hole, None))
        for table in plain.tables(60):
            falls = plain.falls(table)
            expected = []
            for label in plain.all_labels(table):
                name = falls.get(plain.point(table, label[:3])[0])
                expected.append(None if name is None else (name, label[3]))
            self.assertEqual(kinds_of(table), tuple(expected))


class TestPermutations(unittest.TestCase):
    def test_one_then(self):
        self.assertEqual(one_then((1, 2, 0), (0, 2, 1)), (2, 1, 0))
        self.assertEqual(one_then((0, 2, 1), (1, 2, 0)), (1, 0, 2))
        self.assertEqual(one_then((0,), (0,)), (0,))
        for one in permutations(4):
            for other in permutations(2, seed=2):
                if len(one) == len(other):
                    self.assertEqual(one_then(one, other), tuple([other[one[at]] for at in range(len(one))]))

    def test_turned_back(self):
        self.assertEqual(turned_back((1, 2, 0)), (2, 0, 1))
        self.assertEqual(turned_back((0,)), (0,))
        for one in permutations(5):
            same = tuple(range(len(one)))
            self.assertEqual(one_then(one, turned_back(one)), same)
            self.assertEqual(one_then(turned_back(one), one), same)

    def test_often(self):
        for one in permutations(4):
            done = tuple(range(len(one)))
            for many in range(30):
                self.assertEqual(often(one, many), done)
                done = tuple([one[at] for at in done])

    def test_often_of_great_numbers(self):
        self.assertEqual(often((1, 2, 0), 10 ** 12 + 1), (2, 0, 1))
        rounds_unlike = (1, 0, 3, 4, 2, 6, 7, 8, 5, 9)
        self.assertEqual(often(rounds_unlike, 0), tuple(range(10)))
        self.assertEqual(often(rounds_unlike, 1), rounds_unlike)
        self.assertEqual(often(rounds_unlike, 10), (0, 1, 3, 4, 2, 7, 8, 5, 6, 9))
        self.assertEqual(often(rounds_unlike, GREAT), (0, 1, 3, 4, 2, 5, 6, 7, 8, 9))
        self.assertEqual(often(rounds_unlike, GREAT + 1), (1, 0, 4, 2, 3, 6, 7, 8, 5, 9))
        for one in permutations(4):
            self.assertEqual(often(one, GREAT), often(one, GREAT % order_of(one)))
            self.assertEqual(often((0,), GREAT), (0,))

    def test_rounds_and_order(self):
        self.assertEqual(rounds_of((1, 2, 0, 3)), [(0, 1, 2), (3,)])
        self.assertEqual(rounds_of((3, 1, 0, 2)), [(0, 2, 3), (1,)])
        self.assertEqual([rounds_of((0,)), order_of((0,)), order_of((0, 1, 2))], [[(0,)], 1, 1])
        self.assertEqual(order_of((1, 0, 3, 4, 2, 6, 7, 8, 5, 9)), 12)
        for one in permutations(8):
            self.assertEqual(rounds_of(one), rounds(one))
            self.assertEqual(order_of(one), lcm(*[len(together) for together in rounds(one)]))

    def test_an_order_of_many_lengths(self):
        lengths = (2, 3, 5, 7, 11, 13, 17, 19)
        one = []
        for many in lengths:
            start = len(one)
            one.extend([start + (at + 1) % many for at in range(many)])
        self.assertEqual(order_of(tuple(one)), 9699690)
        self.assertEqual([len(together) for together in rounds_of(tuple(one))], list(lengths))

    def test_lists_are_new(self):
        found = rounds_of((1, 0))
        found.append(3)
        self.assertEqual(rounds_of((1, 0)), [(0, 1)])


class TestTurns(unittest.TestCase):
    def test_turns_of(self):
        self.assertEqual(turns_of(BENT), (0, 1, 2, 5, 4, 10, 6, 7, 8, 9, 3, 11))
        for table in plain.tables(80):
            labels = plain.all_labels(table)
            expected = [None] * len(labels)
            for start in labels:
                here = plain.go(table, plain.go(table, start, False), True)
                there = plain.go(table, plain.go(table, start, True), False)
                expected[labels.index(here)] = labels.index(there)
            self.assertEqual(turns_of(table), tuple(expected))

    def test_turns_at(self):
        self.assertEqual(turns_at(BENT, (0, 1, 1)), [((0, 1, 1, 0), (1, 0, 1, 0), (2, 1, 0, 0))])
        self.assertEqual(turns_at(BENT, (1, 0, 1)), [((0, 1, 1, 0), (1, 0, 1, 0), (2, 1, 0, 0))])
        self.assertEqual(turns_at(BENT, (0, 0, 1)), [((0, 0, 1, 0),), ((2, 0, 0, 0),)])
        self.assertEqual(len(turns_at(ENDING, (3, 0, 0))), 2)
        self.assertEqual(sum(len(together) for together in turns_at(AGAINST, (1, 0, 1))), 12)
        for table in plain.tables(50):
            labels = plain.all_labels(table)
            turns = turns_of(table)
            for point in plain.points(table):
                at = [labels.index(label) for label in labels if label[:3] in point]
                expected = [tuple([labels[number] for number in together]) for together in rounds(turns)
                            if together[0] in at]
                for corner in point:
                    self.assertEqual(turns_at(table, corner), expected)


if __name__ == "__main__":
    unittest.main()
