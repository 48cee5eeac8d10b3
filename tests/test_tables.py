"""[13]: EDGES, CORNERS, POINTS and pockets of TABLES, their faults, and how one is made."""

import random
import unittest

from hownarrow.errors import NoTable, Wrong
from hownarrow.tables import (
    corners_of, edge_ahead, edges_of, joined_to, made_table, permutation_of, pocket_at, point_of, points_of,
    table_fault,
)
from tests import judges, plain
from tests.plain import BOX, PAIR, SEVERAL, STRIP, TORUS, TWO

GREAT = 10 ** 39 + 7


class TestParts(unittest.TestCase):
    def test_edges_of(self):
        self.assertEqual(edges_of(TORUS), (("right", 0), ("up", 0)))
        self.assertEqual(edges_of(STRIP), (("down", 0), ("right", 0), ("up", 0)))
        self.assertEqual(edges_of(BOX), (("down", 0), ("left", 0), ("right", 0), ("up", 0)))
        for table in plain.tables(100):
            self.assertEqual(edges_of(table), plain.edges(table))

    def test_edges_of_ten_cells_stand_by_number(self):
        many = 12
        table = (many, 1, tuple(range(many)), tuple(range(many)), (), ())
        self.assertEqual(edges_of(table)[8:13], (("right", 8), ("right", 9), ("right", 10), ("right", 11), ("up", 0)))

    def test_edge_ahead(self):
        for table in plain.tables(60):
            for cell, x, y, mark in plain.all_labels(table):
                aside = plain.edge_named(table, cell, ("right", "left")[x])
                over = plain.edge_named(table, cell, ("up", "down")[y])
                self.assertEqual(edge_ahead(table, (cell, x, y, mark), False), aside)
                self.assertEqual(edge_ahead(table, (cell, x, y, mark), True), over)

    def test_joined_to_and_permutation_of(self):
        self.assertEqual([joined_to(SEVERAL, edge) for edge in (("right", 0), ("up", 2), ("up", 0))], [1, 3, None])
        for table in plain.tables(60):
            joints = plain.joints(table)
            for edge in plain.edges(table):
                there = joints.get((edge[1], edge[0]))
                self.assertEqual(joined_to(table, edge), None if there is None else there[0])
                self.assertEqual(permutation_of(table, edge), plain.turn(table, edge))

    def test_corners_and_points(self):
        for table in plain.tables(100):
            self.assertEqual(corners_of(table), tuple(plain.all_corners(table)))
            points = plain.points(table)
            self.assertEqual(points_of(table), tuple(points))
            for point in points:
                for corner in point:
                    self.assertEqual(point_of(table, corner), point)

    def test_pocket_at(self):
        self.assertEqual([pocket_at(TWO, corner) for corner in corners_of(TWO)], ["a"] + [None] * 7)
        for table in plain.tables(100):
            pockets = dict(table[5])
            for point in plain.points(table):
                for corner in point:
                    self.assertEqual(pocket_at(table, corner), pockets.get(point[0]))


class TestFault(unittest.TestCase):
    def test_each_word(self):
        bad = (
            ("form", (None, (), 5, "form", list(TWO), TWO[:5], TWO + (0,), {})),
            ("size", ((0, 1, (), (), (), ()), (True, 1, (None,), (None,), (), ()), (-1, 1, (), (), (), ()),
                      (None, 0, 0, 0, 0, 0), ("1", 1, (None,), (None,), (), ()))),
            ("marks", ((1, 0, (None,), (None,), (), ()), (1, True, (None,), (None,), (), ()), (1, None, 0, 0, 0, 0))),
            ("rights", ((2, 1, (1, 1), (None, None), (), ()), (1, 1, (1,), (None,), (), ()), (1, 1, 0, 0, 0, 0),
                        (1, 1, (-1,), (None,), (), ()), (1, 1, (False,), (None,), (), ()), (2, 1, (1,), (1,), (), ()),
                        (1, 1, [0], (0,), (), ()), (1, 1, (0, 0), (0,), (), ()), (GREAT, 1, (None,), (None,), (), ()))),
            ("ups", ((2, 1, (None, None), (0, 0), (), ()), (1, 1, (0,), (1,), (), ()), (1, 1, (0,), 0, 0, 0),
                     (1, 1, (0,), (False,), (), ()), (1, 1, (0,), [0], (), ()), (1, 1, (0,), (), (), ()))),
        )
        for word, things in bad:
            for thing in things:
                self.assertEqual(table_fault(thing), word, thing)

    def test_faults_of_dials_and_pockets(self):
        swap, same = (1, 0), (0, 1)
        for dials in ([], None, ((("left", 1), swap),), ((("right", 2), swap),), ((("right", 0), same),),
                      ((("right", 0), [1, 0]),), ((("right", 0), (0,)),), ((("right", 0), (0, 0)),),
                      ((["right", 0], swap),), ([("right", 0), swap],), ((("right", 0), swap), (("left", 0), swap)),
                      ((("right", 0), swap), (("right", 0), swap)), ((("right", 0), swap, 0),), ((("right", 0),),),
                      ((("right", True), swap),), ((("side", 0), swap),), ((("right", 0), (True, False)),)):
            self.assertEqual(table_fault((2, 2, (1, None), (None, None), dials, ())), "dials", dials)
        for pockets in ([], None, (((1, 0, 0), "a"),), (((0, 0, 0), "A"),), (((0, 0, 0), ""),), (((0, 0, 0),),),
                        (((0, 0, 0), "a", 0),), (([0, 0, 0], "a"),), ([(0, 0, 0), "a"],), (((2, 0, 0), "a"),),
                        (((0, 0, 1), "a"), ((0, 0, 0), "b")), (((0, 0, 0), "a"), ((0, 0, 0), "a")),
                        (((0, 0, False), "a"),), (((0, 0), "a"),), (((0, 2, 0), "a"),), (((0, 0, 0), 1),)):
            self.assertEqual(table_fault((2, 1, (1, None), (None, None), (), pockets)), "pockets", pockets)

    def test_good_ones(self):
        for table in plain.tables(100):
            self.assertIsNone(table_fault(table))
        self.assertIsNone(table_fault((1, GREAT, (None,), (0,), (), ())))
        self.assertEqual(table_fault((1, GREAT, (None,), (0,), ((("right", 0), (1, 0)),), ())), "dials")

    def test_one_thing_otherwise(self):
        rng = random.Random(23)
        seen = set()
        for table in plain.tables(120, seed=9):
            for _ in range(60):
                thing = judges.otherwise(rng, table)
                if rng.random() < 0.3:
                    thing = judges.otherwise(rng, thing)
                seen.add(judges.fault(thing))
                self.assertEqual(table_fault(thing), judges.fault(thing), thing)
        self.assertEqual(len(seen), 8)

    def test_values_of_any_kind(self):
        for thing in plain.odd_values() + [Wrong(1), (Wrong(1),) * 6]:
            self.assertEqual(table_fault(thing), judges.fault(thing))

    def test_a_great_table(self):
        many = 700
        row = tuple(range(1, many)) + (None,)
        pockets = tuple([((cell, 1, 0), "a") for cell in range(0, many, 9)])
        self.assertIsNone(table_fault((many, 1, row, (None,) * many, (), pockets)))
        self.assertEqual(table_fault((many, 1, row, (None,) * many, (), pockets + (((699, 0, 0), "a"),))), "pockets")


def told(table, rng):
    """The arguments for made_table that tell a TABLE, in any order, from either side, any CORNER."""
    size, marks, rights, ups = table[:4]
    dials = []
    for (side, cell), permutation in table[4]:
        there = plain.joints(table).get((cell, side))
        if there is not None and rng.random() < 0.5:
            side, cell = there[1], there[0]
        dials.append((side, cell, permutation))
    same = tuple(range(marks))
    for side, cell in plain.edges(table):
        if plain.turn(table, (side, cell)) == same and rng.random() < 0.3:
            dials.append((side, cell, same))
    pockets = [(rng.choice(plain.point(table, corner)), name) for corner, name in table[5]]
    rng.shuffle(dials)
    rng.shuffle(pockets)
    rows = [list(rights), list(ups), dials, pockets]
    return [size, marks] + [rng.choice((list, tuple))(row) for row in rows]


class TestMadeTable(unittest.TestCase):
    def fault_of(self, *arguments):
        try:
            made_table(*arguments)
        except NoTable as error:
            return error.fault
        except Wrong as error:
            return error.place
        return None

    def test_there_and_back(self):
        rng = random.Random(2)
        for table in plain.tables(150):
            for _ in range(3):
                arguments = told(table, rng)
                before = repr(arguments)
                self.assertEqual(made_table(*arguments), table)
                self.assertEqual(repr(arguments), before)

    def test_from_either_side(self):
        expected = (2, 2, (1, None), (None, None), ((("right", 0), (1, 0)),), ())
        self.assertEqual(made_table(2, 2, [1, None], [None, None], [("left", 1, (1, 0))], []), expected)
        self.assertEqual(made_table(2, 2, (1, None), (None, None), (("right", 0, (1, 0)),), ()), expected)
        expected = (2, 2, (None, None), (None, 0), ((("up", 1), (1, 0)),), ())
        self.assertEqual(made_table(2, 2, [None, None], [None, 0], [("down", 0, (1, 0))], []), expected)
        self.assertEqual(made_table(2, 2, [None, None], [None, 0], [("up", 1, (1, 0))], []), expected)
        turned = made_table(1, 2, [0], [None], [("left", 0, (1, 0)), ("down", 0, (1, 0)), ("up", 0, (0, 1))], [])
        self.assertEqual(turned[4], ((("down", 0), (1, 0)), (("right", 0), (1, 0))))

    def test_what_moves_nothing_is_left_out(self):
        self.assertEqual(made_table(1, 1, [None], [None], [("up", 0, (0,))], []), plain.ONE)
        self.assertEqual(made_table(1, 3, [0], [None], [("left", 0, (0, 1, 2))], []), (1, 3, (0,), (None,), (), ()))

    def test_pockets_by_any_corner(self):
        made = made_table(2, 1, [1, None], [None, None], [], [((1, 0, 1), "up"), ((1, 0, 0), "low")])
        self.assertEqual(made[5], (((0, 1, 0), "low"), ((0, 1, 1), "up")))

    def test_each_fault(self):
        rows = ([None, None], [None, None])
        self.assertEqual(self.fault_of(2, 1, [1, 1], [None, None], [], []), "rights")
        self.assertEqual(self.fault_of(2, 1, [0, 0], [None, None], [], []), "rights")
        self.assertEqual(self.fault_of(2, 1, [None, None], (1, 1), [], []), "ups")
        swap, same = (1, 0), (0, 1)
        self.assertEqual(self.fault_of(2, 2, *rows, [("up", 0, swap), ("up", 0, swap)], []), "dials")
        self.assertEqual(self.fault_of(2, 2, *rows, [("up", 0, same), ("up", 0, swap)], []), "dials")
        self.assertEqual(self.fault_of(2, 2, *rows, [("up", 0, same), ("up", 0, same)], []), "dials")
        self.assertEqual(self.fault_of(2, 2, [1, 0], [1, None], [("left", 1, swap), ("right", 0, same)], []), "dials")
        self.assertEqual(self.fault_of(2, 2, [1, 0], [1, None], [("up", 0, swap), ("down", 1, same)], []), "dials")
        self.assertIsNone(self.fault_of(2, 2, [1, 0], [1, None], [("left", 1, swap), ("right", 1, same)], []))
        self.assertEqual(self.fault_of(2, 1, *rows, [], [((0, 0, 0), "a"), ((0, 0, 0), "a")]), "pockets")
        self.assertEqual(self.fault_of(1, 1, [0], [None], [], [((0, 0, 0), "a"), ((0, 1, 0), "b")]), "pockets")
        self.assertIsNone(self.fault_of(1, 1, [0], [None], [], [((0, 0, 0), "a"), ((0, 1, 1), "b")]))

    def test_two_faults_at_once(self):
        dials = [("up", 0, (0,)), ("up", 0, (0,))]
        pockets = [((0, 0, 0), "a"), ((0, 0, 0), "a")]
        good = [2, 1, [None, None], [None, None], [], []]
        bad = {2: ("rights", [1, 1]), 3: ("ups", (0, 0)), 4: ("dials", dials), 5: ("pockets", pockets)}
        for one in bad:
            for other in bad:
                arguments = list(good)
                arguments[one], arguments[other] = bad[one][1], bad[other][1]
                self.assertEqual(self.fault_of(*arguments), bad[min(one, other)][0])

    def wrong_arguments(self):
        """For each place values that are wrong there, beside size 2 and marks 2."""
        dial, pocket = ("up", 0, (1, 0)), ((0, 0, 0), "a")
        row = [None, (), [], (None,), [None] * 3, [None, 2], [None, -1], [None, True], [None, "0"], {0: None, 1: None},
               "ab", 2, [None, (0,)], [None, GREAT]]
        return {
            0: [0, -1, True, None, "2", (2,), GREAT, 3],
            1: [0, -1, True, False, None, "2", [2]],
            2: row, 3: row,
            4: [None, dial, {}, "", (dial, None), [list(dial)], [("up", 0)], [dial + (0,)], [("Up", 0, (1, 0))],
                [("up", 2, (1, 0))], [("up", -1, (1, 0))], [("up", True, (1, 0))], [("up", 0, [1, 0])],
                [("up", 0, (1, 1))], [("up", 0, (0, 1, 2))], [("up", 0, (True, 0))], [(None, 0, (1, 0))],
                [(("up", 0), (1, 0))], [(0, "up", (1, 0))], [("up", None, (1, 0))], [("up", 0, None)]],
            5: [None, pocket, {}, "", [list(pocket)], [((0, 0, 0),)], [pocket + (0,)], [([0, 0, 0], "a")],
                [((2, 0, 0), "a")], [((-1, 0, 0), "a")], [((0, 2, 0), "a")], [((0, 0, True), "a")],
                [((0, 0, 0), "")], [((0, 0, 0), "A")], [((0, 0, 0), None)], [((0, 0), "a")], [pocket, None],
                [((0, 0, 0, 0), "a")], [("a", (0, 0, 0))]],
        }

    def test_wrong_arguments(self):
        good = [2, 2, [None, None], [1, None], [("up", 0, (1, 0))], [((0, 0, 0), "a")]]
        self.assertIsNone(self.fault_of(*good))
        wrong = self.wrong_arguments()
        for place in wrong:
            for thing in wrong[place]:
                arguments = list(good)
                arguments[place] = thing
                # Another size than 2 is a size all the same: then it is the rows that are wrong.
                expected = 2 if place == 0 and type(thing) is int and thing > 2 else place
                self.assertEqual(self.fault_of(*arguments), expected, (place, thing))
                for later in range(place + 1, 6):
                    both = list(arguments)
                    both[later] = wrong[later][0]
                    self.assertEqual(self.fault_of(*both), min(expected, later) if place == 0 else place)

    def test_wrong_goes_ahead_of_faults(self):
        twice = [((0, 0, 0), "a"), ((0, 0, 0), "a")]
        self.assertEqual(self.fault_of(2, 1, [1, 1], [None, None], [], [((9, 0, 0), "a")]), 5)
        self.assertEqual(self.fault_of(2, 1, [1, 1], [0, 0], [("up", 0, (1,))], twice), 4)
        self.assertEqual(self.fault_of(2, 1, [1, 1], [0, 2], [], twice), 3)

    def test_values_of_any_kind(self):
        good = [1, 2, [None], [0], [], []]
        for place in range(6):
            for thing in plain.odd_values() + [Wrong(1), [Wrong(1)]]:
                arguments = list(good)
                arguments[place] = thing
                if place == 0:
                    expected = 2 if type(thing) is int and thing > 1 else (None if judges.whole(thing, 1) else 0)
                elif place == 1:
                    expected = None if judges.whole(thing, 1) else 1
                elif place in (2, 3):
                    expected = None if type(thing) in (list, tuple) and thing in ([None], (None,), (0,), [0]) else place
                    expected = place if type(thing) is tuple and thing == (0,) and thing[0] is False else expected
                else:
                    expected = None if type(thing) in (list, tuple) and not thing else place
                self.assertEqual(self.fault_of(*arguments), expected, (place, str(thing)[:90]))

    def test_marks_of_forty_digits(self):
        self.assertEqual(made_table(1, GREAT, (0,), (None,), (), ()), (1, GREAT, (0,), (None,), (), ()))
        self.assertEqual(self.fault_of(1, GREAT, (0,), (None,), [("up", 0, (0,))], ()), 4)


if __name__ == "__main__":
    unittest.main()
