"""[30] and [8]: two TABLES at once."""

import random
import unittest
from unittest import mock

from hownarrow.alike import are_alike, couples_of, is_couples, parting_slope
from hownarrow.balls import shot
from hownarrow.errors import TooMany
from hownarrow.graphs import graph_of, row_at
from hownarrow.otherwise import renamed, with_dial, without_pocket
from hownarrow.pictures import outcome_of
from tests import judges, plain, trees
from tests.plain import BOX, DIAL, ELL, ONE, PAIR, STRIP, TORUS

SPOT = (0, 0, 0, 0)


def plain_couples(one, spot, other, second, most=4000):
    """The rows of couples_of, from the definition; None if there are more than most."""
    found = [(trees.picture(one, spot, ""), trees.picture(other, second, ""))]
    places = {found[0]: 0}
    rows = []
    for mine, its in found:
        way = []
        for letter in "lr":
            there = (trees.led(mine, letter), trees.led(its, letter))
            if there not in places:
                places[there] = len(found)
                found.append(there)
            way.append(places[there])
        rows.append((mine, its, *way))
        if len(found) > most:
            return None
    return tuple(rows)


def pairs(many, seed, most=600, cells=3):
    """(one, spot, other, second, rows): any two TABLES, and such as differ a little."""
    rng = random.Random(seed)
    found = []
    tables = plain.tables(many, seed=seed, most=cells, marks=2)
    for table in tables:
        spot = rng.choice(plain.all_labels(table))
        others = [(table, rng.choice(plain.all_labels(table)))]
        other = rng.choice(tables)
        others.append((other, rng.choice(plain.all_labels(other))))
        if table[5]:
            others.append((without_pocket(table, rng.choice(table[5])[0]), spot))
        if table[4]:
            others.append((with_dial(table, table[4][0][0], tuple(range(table[1]))), spot))
        for other, second in others:
            rows = plain_couples(table, spot, other, second, most)
            if rows is not None:
                found.append((table, spot, other, second, rows))
    return found


def renamed_at_random(rng, table, label):
    """The same TABLE and LABEL with CELLS numbered otherwise."""
    order = list(range(table[0]))
    rng.shuffle(order)
    return renamed(table, tuple(order)), (order[label[0]],) + label[1:]


class TestCouplesOf(unittest.TestCase):
    def test_some(self):
        self.assertEqual(couples_of(TORUS, SPOT, TORUS, SPOT),
                         ((((0,), (0,), (None,)), ((0,), (0,), (None,)), 0, 0),))
        self.assertEqual(len(couples_of(BOX, SPOT, DIAL, SPOT)), 24)
        rows = couples_of(ONE, SPOT, STRIP, SPOT)
        self.assertEqual([row[2:] for row in rows], [(0, 1), (2, 0), (1, 2)])
        self.assertEqual({row[0] for row in rows}, {graph_of(ONE, SPOT)[0][0]})

    def test_row_by_row(self):
        found = pairs(30, 161)
        self.assertTrue(len(found) > 60)
        for one, spot, other, second, rows in found:
            self.assertEqual(couples_of(one, spot, other, second), rows)

    def test_one_with_itself(self):
        for table in (BOX, ELL, PAIR, DIAL):
            rows = couples_of(table, SPOT, table, SPOT)
            self.assertEqual(tuple([row[1:] for row in rows]), graph_of(table, SPOT))
            self.assertTrue(all(row[0] == row[1] for row in rows))

    def test_behind_each_word(self):
        rng = random.Random(1)
        for one, spot, other, second, rows in pairs(8, 162):
            graph = [(None,) + row[2:] for row in rows]
            for _ in range(4):
                word = "".join([rng.choice("lr") for _ in range(rng.randint(0, 12))])
                row = rows[row_at(graph, word)]
                self.assertEqual(row[:2], (trees.picture(one, spot, word), trees.picture(other, second, word)))

    def test_too_many(self):
        calls = (couples_of, are_alike, parting_slope)
        for one, other in ((trees.BEYOND, BOX), (BOX, trees.FAR_BEYOND), (trees.NEARLY, DIAL),
                           (trees.BEYOND, trees.BEYOND)):
            for call in calls:
                with self.assertRaises(TooMany) as caught:
                    call(one, SPOT, other, SPOT)
                self.assertEqual(caught.exception.most, 4000)
        # The GRAPHS of the third couple are not too great, but both together are.
        self.assertEqual([len(graph_of(table, SPOT)) for table in (trees.NEARLY, DIAL)], [3996, 24])
        self.assertEqual(len(couples_of(trees.NEARLY, SPOT, TORUS, SPOT)), 3996)

    def test_just_as_many(self):
        many = len(couples_of(ELL, SPOT, DIAL, SPOT))
        with mock.patch("hownarrow.alike.MOST", many):
            self.assertEqual(len(couples_of(ELL, SPOT, DIAL, SPOT)), many)
        with mock.patch("hownarrow.alike.MOST", many - 1):
            with self.assertRaises(TooMany):
                couples_of(ELL, SPOT, DIAL, SPOT)


class TestAlike(unittest.TestCase):
    def test_some(self):
        self.assertIs(are_alike(BOX, SPOT, BOX, SPOT), True)
        self.assertIs(are_alike(BOX, SPOT, DIAL, SPOT), False)
        self.assertEqual(parting_slope(BOX, SPOT, DIAL, SPOT), (1, 1))
        self.assertEqual(parting_slope(ONE, SPOT, STRIP, SPOT), (1, 2))
        self.assertIsNone(parting_slope(BOX, SPOT, BOX, SPOT))

    def test_the_first_word_parts(self):
        other = without_pocket(BOX, (0, 1, 1))
        self.assertEqual(parting_slope(BOX, SPOT, other, SPOT), (1, 1))
        self.assertIs(are_alike(BOX, SPOT, other, SPOT), False)

    def test_numbered_otherwise(self):
        rng = random.Random(2)
        for table in plain.tables(25, seed=163, most=5, marks=2):
            label = rng.choice(plain.all_labels(table))
            if trees.graph(table, label, most=800) is not None:
                other, second = renamed_at_random(rng, table, label)
                self.assertIs(are_alike(table, label, other, second), True)
                self.assertIsNone(parting_slope(table, label, other, second))

    def test_a_pocket_that_no_ball_comes_to(self):
        # From the lower left CORNER of a box no ball comes back to it.
        self.assertIs(are_alike(BOX, SPOT, without_pocket(BOX, SPOT[:3]), SPOT), True)
        self.assertNotEqual(graph_of(BOX, SPOT), graph_of(without_pocket(BOX, SPOT[:3]), SPOT))

    def test_of_unlike_size(self):
        # Without pockets, a strip of two CELLS that is closed is not one of one CELL, but one CELL goes as a torus.
        ring = (2, 1, (1, 0), (0, 1), (), ())
        self.assertEqual(parting_slope(TORUS, SPOT, ring, SPOT), (1, 1))
        four = (4, 1, (1, 0, 3, 2), (1, 0, 3, 2), (), ())
        self.assertIs(are_alike(four, SPOT, (2, 1, (1, 0), (1, 0), (), ()), SPOT), True)

    def test_against_all_slopes_from_the_simplest_one_on(self):
        far = []
        for one, spot, other, second, rows in pairs(40, 164):
            unlike = [outcome_of(row[0]) != outcome_of(row[1]) for row in rows]
            told = parting_slope(one, spot, other, second)
            self.assertIs(are_alike(one, spot, other, second), told is None)
            self.assertIs(any(unlike), told is not None)
            if told is None:
                continue
            graph = [(None,) + row[2:] for row in rows]
            first = [slope for slope, at in trees.slopes_with_rows(graph, sum(told)) if unlike[at]][0]
            self.assertEqual(told, first)
            if sum(told) < 40:
                for slope in plain.slopes(sum(told)):
                    if slope == told:
                        break
                    self.assertEqual(shot(one, spot, slope), shot(other, second, slope))
                self.assertNotEqual(shot(one, spot, told), shot(other, second, told))
            far.append(sum(told))
        self.assertTrue(max(far) > 4 and far.count(2) > 5)

    def test_alike_by_all_shots(self):
        for one, spot, other, second, _ in pairs(20, 165):
            if are_alike(one, spot, other, second):
                for slope in plain.slopes(12) + [(40, 39), (100, 7)]:
                    self.assertEqual(plain.ball(one, spot, slope)[0], plain.ball(other, second, slope)[0])


class TestIsCouples(unittest.TestCase):
    def setUp(self):
        self.asked = (BOX, SPOT, without_pocket(ELL, (2, 0, 1)), SPOT)
        self.rows = couples_of(*self.asked)

    def check(self, thing):
        self.assertIs(is_couples(*self.asked, thing), False)

    def test_the_rows_themselves(self):
        self.assertIs(is_couples(*self.asked, self.rows), True)
        self.assertTrue(len(self.rows) > 10)
        for one, spot, other, second, rows in pairs(12, 166, most=300):
            self.assertIs(is_couples(one, spot, other, second, rows), True)
            if (one, spot) != (other, second):
                graph = couples_of(one, spot, one, spot)
                self.assertIs(is_couples(one, spot, other, second, graph), graph == rows)

    def test_left_out_twice_exchanged(self):
        rows = self.rows
        for at in range(len(rows)):
            self.check(rows[:at] + rows[at + 1:])
            self.check(rows[:at] + rows[at:at + 1] + rows[at:])
            self.check(rows + rows[at:at + 1])
            for other in range(at):
                changed = list(rows)
                changed[at], changed[other] = changed[other], changed[at]
                self.check(tuple(changed))

    def test_one_item_otherwise(self):
        for at, row in enumerate(self.rows):
            for place in (2, 3):
                for index in (row[place] + 1, row[place] - 1, -1, len(self.rows), None, str(row[place])):
                    changed = row[:place] + (index,) + row[place + 1:]
                    self.check(self.rows[:at] + (changed,) + self.rows[at + 1:])
            self.check(self.rows[:at] + (row[1::-1] + row[2:],) + self.rows[at + 1:])

    def test_truths_and_lists(self):
        rows = self.rows
        self.check(list(rows))
        self.check(rows[:3] + (list(rows[3]),) + rows[4:])
        at = [place for place, row in enumerate(rows) if row[2] == 1][0]
        self.check(rows[:at] + (rows[at][:2] + (True,) + rows[at][3:],) + rows[at + 1:])
        sides, ups, kinds = rows[2][0]
        for mine in ([sides, ups, kinds], (list(sides), ups, kinds),
                     (tuple([True if one == 1 else one for one in sides]), ups, kinds)):
            self.check(rows[:2] + ((mine,) + rows[2][1:],) + rows[3:])

    def test_one_couple_in_two_rows(self):
        # Each row tells its own led ones rightly, but each COUPLE stands twice.
        rows = couples_of(STRIP, SPOT, STRIP, SPOT)
        order = [(0, 0)]
        double = []
        for at, sheet in order:
            ways = []
            for there in ((rows[at][2], 1 - sheet if at == 0 else sheet), (rows[at][3], sheet)):
                if there not in order:
                    order.append(there)
                ways.append(order.index(there))
            double.append(rows[at][:2] + tuple(ways))
        self.assertEqual(len(double), 6)
        self.assertIs(is_couples(STRIP, SPOT, STRIP, SPOT, tuple(double)), False)
        self.assertIs(is_couples(STRIP, SPOT, STRIP, SPOT, rows), True)

    def test_more_than_4000(self):
        graph = trees.graph(trees.BEYOND, SPOT)
        rows = tuple([(row[0], row[0]) + row[1:] for row in graph])
        self.assertEqual(len(rows), 4032)
        self.assertIs(is_couples(trees.BEYOND, SPOT, trees.BEYOND, SPOT, rows), False)
        # It raises nothing, whatever there is.
        self.assertIs(is_couples(trees.BEYOND, SPOT, BOX, SPOT, self.rows), False)

    def test_values_of_any_kind(self):
        for thing in plain.odd_values():
            self.check(thing)
            self.check((thing,))
            self.check(((thing, thing, 0, 0),))
            self.check(((self.rows[0][0], thing, 0, 0),))

    def test_one_part_otherwise(self):
        rng = random.Random(3)
        for one, other in ((BOX, STRIP), (STRIP, STRIP), (TORUS, BOX), (ELL, TORUS)):
            rows = couples_of(one, SPOT, other, SPOT)
            for _ in range(250):
                thing = judges.otherwise(rng, rows)
                self.assertIs(is_couples(one, SPOT, other, SPOT, thing), repr(thing) == repr(rows))


if __name__ == "__main__":
    unittest.main()
