"""[12]: ENDS and SLOPES."""

import unittest
from fractions import Fraction
from math import gcd

from hownarrow.slopes import (
    added, are_neighbours, less_steep, lies_in, mirrored, simpler, simplest_first, slopes_between, slopes_up_to,
)

ENDS = [(p, q) for p in range(13) for q in range(13) if gcd(p, q) == 1]
SLOPES = [end for end in ENDS if 0 not in end]
GREAT = 10 ** 40


def height(end):
    """How steep an END is: what is upright has no fraction, and is above all."""
    return Fraction(end[1], end[0]) if end[0] else Fraction(10 ** 90)


class TestSlopes(unittest.TestCase):
    def test_less_steep(self):
        for one in ENDS:
            for other in ENDS:
                self.assertIs(less_steep(one, other), height(one) < height(other), (one, other))

    def test_less_steep_of_great_numbers(self):
        self.assertIs(less_steep((GREAT + 1, GREAT), (GREAT, GREAT + 1)), True)
        self.assertIs(less_steep((GREAT, GREAT + 1), (GREAT + 1, GREAT + 2)), False)
        self.assertIs(less_steep((GREAT + 1, GREAT + 2), (GREAT, GREAT + 1)), True)
        self.assertIs(less_steep((1, 0), (GREAT, 1)), True)
        self.assertIs(less_steep((1, GREAT), (0, 1)), True)
        self.assertIs(less_steep((0, 1), (1, GREAT)), False)

    def test_added(self):
        self.assertEqual(added((1, 0), (0, 1)), (1, 1))
        self.assertEqual(added((3, 7), (GREAT, 2)), (GREAT + 3, 9))

    def test_are_neighbours(self):
        # All NEIGHBOURS of WORDS whose SLOPE has p + q up to 24, found by going down from "".
        found = set()
        waiting = [((1, 0), (0, 1))]
        while waiting:
            low, high = waiting.pop()
            found.add((low, high))
            middle = (low[0] + high[0], low[1] + high[1])
            if sum(middle) <= 24:
                waiting.extend([(low, middle), (middle, high)])
        for one in ENDS:
            for other in ENDS:
                self.assertIs(are_neighbours(one, other), (one, other) in found, (one, other))

    def test_neighbours_of_great_numbers(self):
        self.assertIs(are_neighbours((GREAT + 1, GREAT), (GREAT, GREAT - 1)), False)
        self.assertIs(are_neighbours((GREAT, GREAT - 1), (GREAT + 1, GREAT)), True)
        self.assertIs(are_neighbours((1, 0), (GREAT, 1)), True)
        self.assertIs(are_neighbours((GREAT, 1), (1, 0)), False)
        self.assertIs(are_neighbours((1, 0), (1, 0)), False)

    def test_simpler(self):
        for one in SLOPES:
            for other in SLOPES:
                expected = (sum(one), one[0]) < (sum(other), other[0])
                self.assertIs(simpler(one, other), expected, (one, other))

    def test_lies_in(self):
        for low in ENDS[:40]:
            for high in ENDS[:40]:
                if less_steep(low, high):
                    for slope in SLOPES[:60]:
                        expected = height(low) < height(slope) < height(high)
                        self.assertIs(lies_in((low, high), slope), expected, (low, high, slope))

    def test_ends_of_a_range_do_not_lie_in_it(self):
        self.assertIs(lies_in(((2, 1), (1, 1)), (2, 1)), False)
        self.assertIs(lies_in(((2, 1), (1, 1)), (1, 1)), False)
        self.assertIs(lies_in(((1, 0), (0, 1)), (1, GREAT)), True)
        self.assertIs(lies_in(((1, 0), (0, 1)), (GREAT, 1)), True)

    def test_simplest_first(self):
        given = [(3, 2), (2, 1), (1, 2), (2, 1), (1, 1), (3, 2), (GREAT, 1), (1, GREAT)]
        expected = [(1, 1), (1, 2), (2, 1), (3, 2), (1, GREAT), (GREAT, 1)]
        self.assertEqual(simplest_first(given), expected)
        self.assertEqual(simplest_first(tuple(given)), expected)
        self.assertEqual(len(given), 8)
        self.assertEqual(simplest_first([]), [])
        self.assertEqual(simplest_first(()), [])
        self.assertEqual(simplest_first(SLOPES[::-1]), sorted(SLOPES, key=lambda one: (sum(one), one[0])))

    def test_simplest_first_returns_a_new_list(self):
        given = [(1, 1), (1, 2)]
        found = simplest_first(given)
        self.assertIsNot(found, given)
        found.append((9, 1))
        self.assertEqual(given, [(1, 1), (1, 2)])

    def test_slopes_up_to(self):
        self.assertEqual(slopes_up_to(0), [])
        self.assertEqual(slopes_up_to(1), [])
        self.assertEqual(slopes_up_to(2), [(1, 1)])
        self.assertEqual(slopes_up_to(5), [(1, 1), (1, 2), (2, 1), (1, 3), (3, 1), (1, 4), (2, 3), (3, 2), (4, 1)])
        for most in (2, 3, 17, 60, 200):
            told = [(p, q) for p in range(1, most) for q in range(1, most) if gcd(p, q) == 1 and p + q <= most]
            self.assertEqual(slopes_up_to(most), sorted(told, key=lambda one: (one[0] + one[1], one[0])))

    def test_slopes_between(self):
        for within in (((1, 0), (0, 1)), ((1, 0), (1, 1)), ((5, 2), (2, 1)), ((1, 1), (0, 1)), ((GREAT, 1), (2, 1))):
            for most in (0, 1, 2, 3, 30, 200):
                expected = [one for one in slopes_up_to(most) if height(within[0]) < height(one) < height(within[1])]
                self.assertEqual(slopes_between(within, most), expected)
        self.assertEqual(slopes_between(((1, 0), (1, 1)), 5), [(2, 1), (3, 1), (3, 2), (4, 1)])

    def test_mirrored(self):
        self.assertEqual(mirrored((1, 0)), (0, 1))
        self.assertEqual(mirrored((GREAT, 3)), (3, GREAT))
        for one in ENDS:
            for other in ENDS:
                self.assertIs(less_steep(mirrored(other), mirrored(one)), less_steep(one, other))


if __name__ == "__main__":
    unittest.main()
