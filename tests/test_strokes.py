"""[38]: texts of STROKES, what they GAIN by all SLOPES, and the best one."""

import random
import unittest

from hownarrow.errors import NoShot, TooMany, Wrong
from hownarrow.graphs import graph_of
from hownarrow.strokes import are_values, best_stroke, gains_of, read_stroke, show_stroke, value_of
from tests import judges, plain, trees
from tests.plain import BOX, DIAL, ELL, ONE, PAIR
from tests.test_games import SPOTS, TURNING, WORTHS, judged_spots, odd_values

TWICE = ((0, 0, 0), (0, 1, 0), (0, 1, 1))


def is_small(table, label, most=600):
    return trees.graph(table, label, most=most) is not None


def some_games(many, seed, cells=3, marks=2):
    """(table, spots, worths) of which all GRAPHS are small."""
    rng = random.Random(seed)
    found = [(TURNING, SPOTS, WORTHS), (TURNING, SPOTS, {"far": 3, "low": -2}), (DIAL, TWICE, {"a": 5, "d": -4, "b": 5}),
             (BOX, ((0, 0, 0),), {}), (PAIR, ((0, 0, 0), (1, 0, 1)), {"": 3}), (ELL, ((0, 0, 0),), {"": 1, "c": 9})]
    for table in plain.tables(many, seed=seed, most=cells, marks=marks):
        corners = plain.all_corners(table)
        spots = tuple(sorted(rng.sample(corners, rng.randint(1, min(3, len(corners))))))
        if all([is_small(table, seat + (mark,)) for seat in spots for mark in range(table[1])]):
            names = rng.sample(["", "a", "b", "home", "abcdefghijkl"], 3)
            found.append((table, spots, {name: rng.randint(-9, 9) for name in names}))
    return found


def gain_and_mark(worths, mark, outcome):
    if outcome[0] == "round":
        return (0, mark)
    return (worths.get(outcome[1], 0), outcome[2])


def plain_gains(table, spots, worths, mark):
    """The dict of gains_of, by going along all SLOPES from the simplest one on, with the ROW behind each."""
    found = {}
    for seat in spots:
        rows = graph_of(table, seat + (mark,))
        told = [gain_and_mark(worths, mark, trees.outcome(row[0])) for row in rows]
        most = 8
        while True:
            first = {}
            for slope, at in trees.slopes_with_rows(rows, most):
                first.setdefault(told[at], slope)
            if set(first) == set(told):
                break
            most *= 2
        for key, slope in first.items():
            if key not in found or (trees.simplicity(slope), seat) < (trees.simplicity(found[key][1]), found[key][0]):
                found[key] = (seat, slope)
    return {key: found[key] for key in sorted(found)}


def plain_values(table, spots, worths, most):
    """VALUES of all marks, up to most STROKES to come."""
    gains = [set(plain_gains(table, spots, worths, mark)) for mark in range(table[1])]
    values = {(mark, 0): 0 for mark in range(table[1])}
    for many in range(1, most + 1):
        for mark in range(table[1]):
            values[(mark, many)] = max(gain - values[(there, many - 1)] for gain, there in gains[mark])
    return values


class TestTexts(unittest.TestCase):
    def test_show(self):
        self.assertEqual(show_stroke(((0, 1, 0), (3, 2))), "0 1 0 3 2")
        self.assertEqual(show_stroke(((7, 0, 1), (4000, 3999))), "7 0 1 4000 3999")

    def test_there_and_back(self):
        rng = random.Random(1)
        for table in plain.tables(20, seed=231):
            corners = plain.all_corners(table)
            spots = tuple(sorted(rng.sample(corners, rng.randint(1, len(corners)))))
            for slope in plain.slopes(6) + [(4000, 3999), (1, 4000)]:
                stroke = (rng.choice(spots), slope)
                text = " ".join([str(number) for number in stroke[0] + stroke[1]])
                self.assertEqual(show_stroke(stroke), text)
                self.assertEqual(read_stroke(table, spots, text), stroke)

    def test_no_shot(self):
        for text in ("", " ", "0 1 0 3", "0 1 0 3 2 1", "0 1 0 3  2", " 0 1 0 3 2", "0 1 0 3 2 ", "0  1 0 3 2",
                     "0\n1 0 3 2", "0 1 0 3 2\n", "00 1 0 3 2", "0 1 0 03 2", "0 01 0 3 2", "+0 1 0 3 2", "0 1 0 +3 2",
                     "0 1 0 -3 2", "-0 1 0 3 2", "0 1 0 3 x", "a b c d e", "0 1 0 3.0 2", "0,1,0,3,2", "0 1 0 2 4",
                     "0 1 0 0 1", "0 1 0 1 0", "0 1 0 4001 1", "0 1 0 1 4001", "0 1 0 4000 4000", "0 1 1 3 2",
                     "0 0 1 3 2", "1 0 0 3 2", "0 2 0 3 2", "0 1 0 3 2 ", "0 1 0 1 " + "1" * 2000, "0 1 0 3_0 1",
                     "0 1 0 " + "9" * 40 + " 1", "0 1 0 1e3 1", "0 1 0 3"):
            with self.assertRaises(NoShot):
                read_stroke(TURNING, SPOTS, text)
        self.assertEqual(read_stroke(TURNING, SPOTS, "0 1 0 3 2"), ((0, 1, 0), (3, 2)))

    def test_other_seats(self):
        self.assertEqual(read_stroke(TURNING, ((0, 0, 1),), "0 0 1 1 1"), ((0, 0, 1), (1, 1)))
        with self.assertRaises(NoShot):
            read_stroke(TURNING, ((0, 0, 1),), "0 0 0 1 1")

    def test_wrong(self):
        for thing in odd_values():
            for place, good, args in ((0, judges.fault(thing) is None, (thing, SPOTS, "0 1 0 3 2")),
                                      (1, judged_spots(TURNING, thing), (TURNING, thing, "0 1 0 3 2")),
                                      (2, type(thing) is str, (TURNING, SPOTS, thing))):
                if not good:
                    with self.assertRaises(Wrong) as caught:
                        read_stroke(*args)
                    self.assertEqual(caught.exception.place, place)
                elif place == 2:
                    with self.assertRaises(NoShot):
                        read_stroke(*args)
        for args, place in (((None, None, None), 0), ((TURNING, (), None), 1), ((TURNING, SPOTS, None), 2),
                            ((TURNING, ((1, 0, 0),), ""), 1)):
            with self.assertRaises(Wrong) as caught:
                read_stroke(*args)
            self.assertEqual(caught.exception.place, place)


class TestGains(unittest.TestCase):
    def test_some(self):
        self.assertEqual(gains_of(TURNING, SPOTS, WORTHS, 0), {
            (0, 0): ((0, 0, 0), (1, 2)), (1, 0): ((0, 1, 0), (1, 1)), (1, 1): ((0, 0, 0), (2, 1)),
            (3, 0): ((0, 0, 0), (3, 1)), (3, 1): ((0, 0, 0), (1, 1))})

    def test_a_round_gains_nothing(self):
        self.assertEqual(gains_of(ONE, ((0, 0, 0),), {"": 7}, 0), {(0, 0): ((0, 0, 0), (1, 1))})
        # A round, and a name without a worth, are the same here.
        self.assertEqual(set(gains_of(BOX, ((0, 0, 0),), {"b": 0, "zzz": 4}, 0)), {(0, 0)})

    def test_against_all_slopes(self):
        for table, spots, worths in some_games(30, 232):
            for mark in range(table[1]):
                told = gains_of(table, spots, worths, mark)
                self.assertEqual(told, plain_gains(table, spots, worths, mark))
                self.assertEqual(list(told), sorted(told))

    def test_step_by_step(self):
        for table, spots, worths in some_games(6, 233):
            mark = table[1] - 1
            told = gains_of(table, spots, worths, mark)
            met = set()
            for slope in plain.slopes(8):
                for seat in spots:
                    key = gain_and_mark(worths, mark, plain.ball(table, seat + (mark,), slope)[0])
                    if key not in met:
                        self.assertEqual(told[key], (seat, slope))
                    met.add(key)

    def test_new_dicts(self):
        gains_of(TURNING, SPOTS, WORTHS, 0).clear()
        self.assertEqual(len(gains_of(TURNING, SPOTS, WORTHS, 0)), 5)
        worths = dict(WORTHS)
        gains_of(TURNING, SPOTS, worths, 0)
        self.assertEqual(worths, WORTHS)


class TestValues(unittest.TestCase):
    def test_some(self):
        self.assertEqual([value_of(TURNING, SPOTS, WORTHS, 0, many) for many in range(4)], [0, 3, 0, 3])
        self.assertEqual(best_stroke(TURNING, SPOTS, WORTHS, 0, 1), ((0, 0, 0), (1, 1)))

    def test_0_1_and_40_and_each_mark(self):
        far = 0
        for table, spots, worths in some_games(14, 234):
            values = plain_values(table, spots, worths, 40)
            for mark in range(table[1]):
                gains = plain_gains(table, spots, worths, mark)
                for many in (0, 1, 2, 3, 7, 40):
                    self.assertEqual(value_of(table, spots, worths, mark, many), values[(mark, many)])
                    if many > 0:
                        best = [stroke for (gain, there), stroke in gains.items()
                                if gain - values[(there, many - 1)] == values[(mark, many)]]
                        simplest = min(best, key=lambda stroke: (trees.simplicity(stroke[1]), stroke[0]))
                        self.assertEqual(best_stroke(table, spots, worths, mark, many), simplest)
                        far += simplest[1] != (1, 1)
        self.assertTrue(far > 10)

    def test_the_order_of_worths_is_no_matter(self):
        other = {name: WORTHS[name] for name in sorted(WORTHS, reverse=True)}
        self.assertEqual(list(gains_of(TURNING, SPOTS, other, 1).items()), list(gains_of(TURNING, SPOTS, WORTHS, 1).items()))
        self.assertEqual(best_stroke(TURNING, SPOTS, other, 1, 5), best_stroke(TURNING, SPOTS, WORTHS, 1, 5))


class TestAreValues(unittest.TestCase):
    def test_the_right_one(self):
        for table, spots, worths in some_games(10, 235):
            for most in (0, 1, 3):
                values = plain_values(table, spots, worths, most)
                self.assertIs(are_values(table, spots, worths, most, values), True)
                turned = {key: values[key] for key in sorted(values, reverse=True)}
                self.assertIs(are_values(table, spots, worths, most, turned), True)
                self.assertIs(are_values(table, spots, worths, most + 1, values), False)
        values = plain_values(TURNING, SPOTS, WORTHS, 40)
        self.assertIs(are_values(TURNING, SPOTS, WORTHS, 40, values), True)
        self.assertIs(are_values(TURNING, SPOTS, WORTHS, 39, values), False)

    def test_one_item_otherwise_left_out_more(self):
        values = plain_values(TURNING, SPOTS, WORTHS, 3)
        for key in values:
            for worth in (values[key] + 1, values[key] - 1, None, str(values[key]), (values[key],), bool(values[key])):
                self.assertIs(are_values(TURNING, SPOTS, WORTHS, 3, {**values, key: worth}), False)
            less = dict(values)
            del less[key]
            self.assertIs(are_values(TURNING, SPOTS, WORTHS, 3, less), False)
            less[(key[0], 4)] = values[key]
            self.assertIs(are_values(TURNING, SPOTS, WORTHS, 3, less), False)
        for key in ((0, 4), (2, 0), (-1, 0), (0, -1), 0, "", None, (0,), (0, 0, 0), ("0", 0)):
            self.assertIs(are_values(TURNING, SPOTS, WORTHS, 3, {**values, key: 0}), False)

    def test_truths(self):
        values = plain_values(TURNING, SPOTS, WORTHS, 1)
        self.assertEqual(values, {(0, 0): 0, (1, 0): 0, (0, 1): 3, (1, 1): 3})
        for bad, good in (((True, 0), (1, 0)), ((0, False), (0, 0)), ((0, True), (0, 1))):
            changed = {key: worth for key, worth in values.items() if key != good}
            changed[bad] = values[good]
            self.assertEqual(changed, values)
            self.assertIs(are_values(TURNING, SPOTS, WORTHS, 1, changed), False)
        self.assertIs(are_values(TURNING, SPOTS, WORTHS, 1, {**values, (0, 0): False}), False)
        ones = plain_values(TURNING, SPOTS, {"far": 1}, 1)
        self.assertIs(are_values(TURNING, SPOTS, {"far": 1}, 1, ones), True)
        self.assertIs(are_values(TURNING, SPOTS, {"far": 1}, 1, {**ones, (0, 1): True}), False)

    def test_values_of_any_kind(self):
        for thing in odd_values():
            self.assertIs(are_values(TURNING, SPOTS, WORTHS, 1, thing), False)
            self.assertIs(are_values(TURNING, SPOTS, WORTHS, 0, {(0, 0): 0, (1, 0): thing}), judges.whole(thing, 0, 1))
        self.assertIs(are_values(TURNING, SPOTS, WORTHS, 0, {(0, 0): 0, (1, 0): 0}), True)
        self.assertIs(are_values(TURNING, SPOTS, WORTHS, 0, [((0, 0), 0), ((1, 0), 0)]), False)


class TestTooMany(unittest.TestCase):
    def test_all_of_them(self):
        seat = ((0, 0, 0),)
        for table in (trees.BEYOND, trees.FAR_BEYOND):
            calls = [lambda: gains_of(table, seat, {}, 0), lambda: value_of(table, seat, {}, 0, 1),
                     lambda: value_of(table, seat, {}, 0, 40), lambda: best_stroke(table, seat, {}, 0, 1)]
            for thing in ({}, None, {(0, 0): 0}, {(0, 0): 0, (1, 0): 0}):
                calls.append(lambda thing=thing: are_values(table, seat, {}, 0, thing))
                calls.append(lambda thing=thing: are_values(table, seat, {}, 3, thing))
            for call in calls:
                with self.assertRaises(TooMany) as caught:
                    call()
                self.assertEqual(caught.exception.most, 4000)


if __name__ == "__main__":
    unittest.main()
