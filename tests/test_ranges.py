"""[21]: RANGES, the SIMPLEST SLOPE in one, its node and its cover."""

import random
import unittest

from hownarrow.ranges import cover_of, node_in, simplest_in
from hownarrow.words import neighbours_of, range_of, slope_of, word_of
from tests import trees

ALL = ((1, 0), (0, 1))
SLOPES = trees.words_to(36)
ENDS = [(1, 0), (0, 1)] + sorted(slope for slope in SLOPES if sum(slope) <= 9)


def ranges_of_ends():
    return [(low, high) for low in ENDS for high in ENDS if trees.steeper(high, low)]


def random_ranges(many, seed, letters):
    """RANGES with ENDS beneath one WORD, so narrow ones far down."""
    rng = random.Random(seed)
    found = []
    while len(found) < many:
        stem = "".join([rng.choice("lr") * rng.choice((1, 1, 2, 9)) for _ in range(rng.randint(0, letters))])[:180]
        ends = []
        for _ in (0, 1):
            word = stem + "".join([rng.choice("lr") * rng.choice((1, 1, 3)) for _ in range(rng.randint(0, 6))])
            ends.append(rng.choice([slope_of(word), *neighbours_of(word)]))
        if trees.steeper(ends[0], ends[1]):
            ends = ends[::-1]
        if ends[0] != ends[1]:
            found.append(tuple(ends))
    return found


def is_whole(within, word):
    """Whether the RANGE of a WORD lies in this one, ends of both may be the same."""
    first, second = trees.below(word)
    return not trees.steeper(within[0], first) and not trees.steeper(second, within[1])


def touches(within, word):
    """Whether the RANGE of a WORD has SLOPES in common with this one."""
    first, second = trees.below(word)
    return trees.steeper(second, within[0]) and trees.steeper(within[1], first)


def least_cover(within, word=""):
    """The cover of what lies beneath a WORD in a RANGE, by going down the tree."""
    if is_whole(within, word):
        return [word]
    if not touches(within, word):
        return []
    middle = [trees.middle(word)] if trees.inside(within, trees.middle(word)) else []
    return least_cover(within, word + "l") + middle + least_cover(within, word + "r")


def tells(item, slope, word):
    """Whether an item of a cover tells a SLOPE that has this WORD."""
    return word.startswith(item) if isinstance(item, str) else item == slope


class TestSimplest(unittest.TestCase):
    def test_some(self):
        self.assertEqual(simplest_in(ALL), (1, 1))
        self.assertEqual(simplest_in(((5, 2), (2, 1))), (7, 3))
        self.assertEqual(simplest_in(((3, 1), (1, 1))), (2, 1))
        self.assertEqual([simplest_in(((1, 0), (1, 1))), simplest_in(((1, 1), (0, 1)))], [(2, 1), (1, 2)])
        self.assertEqual([simplest_in(((1, 0), (1, 3))), simplest_in(((3, 1), (0, 1)))], [(1, 1), (1, 1)])
        self.assertEqual([simplest_in(((1, 0), (4000, 1))), simplest_in(((1, 4000), (0, 1)))], [(4001, 1), (1, 4001)])
        self.assertEqual(simplest_in(((3999, 3998), (4000, 3999))), (7999, 7997))

    def test_of_any_two_ends(self):
        for within in ranges_of_ends():
            lying = [slope for slope in SLOPES if trees.inside(within, slope)]
            self.assertEqual(simplest_in(within), min(lying, key=lambda slope: (sum(slope), slope)), within)

    def test_of_neighbours(self):
        for word in trees.words(8) + ["lr" * 100, "l" * 200, "rrl" * 60]:
            self.assertEqual(simplest_in(range_of(word)), trees.middle(word))

    def test_narrow_ones(self):
        for within in random_ranges(150, 3, 60):
            found = simplest_in(within)
            self.assertTrue(trees.inside(within, found))
            # Whatever lies on the way to it does not lie in the RANGE, and so nothing simpler does.
            word = word_of(found)
            for at in range(len(word)):
                self.assertFalse(trees.inside(within, slope_of(word[:at])))

    def test_far_down(self):
        for word in ("lr" * 10000, "l" * 19999, "rl" * 5000 + "l" * 9000):
            within = range_of(word)
            self.assertEqual(simplest_in(within), slope_of(word))
            self.assertEqual(node_in(within), word)
            self.assertEqual(cover_of(within), (word,))
            self.assertEqual(simplest_in((slope_of(word), within[1])), slope_of(word + "r"))


class TestNode(unittest.TestCase):
    def test_some(self):
        self.assertEqual(node_in(ALL), "")
        self.assertEqual([node_in(((5, 2), (2, 1))), node_in(((3, 1), (1, 1)))], ["llrr", "lr"])
        # Of two that are as short, the least.
        self.assertEqual(node_in(((2, 1), (1, 2))), "lr")
        self.assertEqual([node_in(((3, 1), (1, 2))), node_in(((3, 2), (1, 2)))], ["lr", "rl"])
        self.assertEqual([node_in(((1, 0), (1, 2))), node_in(((2, 1), (0, 1)))], ["l", "r"])

    def test_of_any_two_ends(self):
        words = sorted(trees.words(9), key=lambda word: (len(word), word))
        for within in ranges_of_ends():
            self.assertEqual(node_in(within), [word for word in words if is_whole(within, word)][0], within)

    def test_narrow_ones(self):
        for within in random_ranges(60, 4, 30):
            node = node_in(within)
            self.assertTrue(is_whole(within, node))
            # Beside it, no WORD as short or shorter; all that touch the RANGE are gone through.
            level = [""]
            while len(level[0]) < len(node):
                self.assertFalse([word for word in level if is_whole(within, word)])
                level = [word + letter for word in level for letter in "lr" if touches(within, word + letter)]
            self.assertEqual(node, min([word for word in level if is_whole(within, word)]))


class TestCover(unittest.TestCase):
    def test_some(self):
        self.assertEqual(cover_of(ALL), ("",))
        self.assertEqual([cover_of(((3, 1), (1, 1))), cover_of(((5, 2), (2, 1))), cover_of(((1, 0), (2, 1)))],
                         [("llr", (2, 1), "lr"), ("llrr",), ("ll",)])
        self.assertEqual(cover_of(((2, 1), (1, 2))), ("lr", (1, 1), "rl"))
        self.assertEqual(cover_of(((1, 0), (1, 2))), ("l", (1, 1), "rl"))
        self.assertEqual(cover_of(((5, 3), (1, 1))), ("lrlr", (3, 2), "lrr"))
        self.assertEqual(cover_of(((4, 1), (1, 3))), ("lllr", (3, 1), "llr", (2, 1), "lr", (1, 1), "rl", (1, 2), "rrl"))

    def test_each_slope_is_told_just_once(self):
        for within in ranges_of_ends():
            cover = cover_of(within)
            for slope, word in SLOPES.items():
                many = sum(tells(item, slope, word) for item in cover)
                self.assertEqual(many, 1 if trees.inside(within, slope) else 0, (within, slope))

    def test_no_cover_has_fewer_items(self):
        for within in ranges_of_ends() + random_ranges(60, 5, 12):
            cover = cover_of(within)
            self.assertIsInstance(cover, tuple)
            self.assertEqual(list(cover), least_cover(within), within)

    def test_from_the_least_steep_on(self):
        for within in random_ranges(80, 6, 40):
            cover = cover_of(within)
            self.assertIn(simplest_in(within), [item if isinstance(item, tuple) else slope_of(item) for item in cover])
            edge = within[0]
            for item in cover:
                first, second = range_of(item) if isinstance(item, str) else (item, item)
                # Each item begins where the one ahead ends: nothing is left out, nothing told twice.
                self.assertEqual(edge, first)
                edge = second
            self.assertEqual(edge, within[1])

    def test_ends_with_great_numbers(self):
        self.assertEqual(len(cover_of(((4000, 1), (1, 4000)))), 2 * (3998 + 3999) + 1)
        self.assertEqual(len(cover_of(((4000, 3999), (3999, 4000)))), 3)
        self.assertEqual(cover_of(((4000, 1), (3999, 1))), ("l" * 3999 + "r",))
        self.assertEqual(cover_of(((3999, 2), (1999, 1))), ("l" * 1999 + "rr",))


if __name__ == "__main__":
    unittest.main()
