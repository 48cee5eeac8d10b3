"""[26] and [6]: graphs and papers, judged row by row."""

import random
import unittest

from hownarrow.errors import TooMany
from hownarrow.graphs import graph_of
from hownarrow.papers import is_graph, is_paper, paper_for
from hownarrow.pictures import first_picture, led, outcome_of, picture_at
from hownarrow.settled import outcomes_of
from hownarrow.wishes import everything, meets, wish_for
from tests import judges, plain, trees
from tests.plain import BENT, BOX, DIAL, ELL, ONE, PAIR, TORUS

SPOT = (0, 0, 0, 0)


def changed(rows, at, row):
    return rows[:at] + (row,) + rows[at + 1:]


def judged_paper(table, label, wish, thing):
    """Whether thing is a PAPER, by the words of [26]."""
    if type(thing) is not tuple or not all(judges.picture(one) for one in thing):
        return False
    if len(set(thing)) != len(thing) or trees.picture(table, label, "") not in thing:
        return False
    led_to = [trees.led(one, letter) for one in thing for letter in "lr"]
    return all(one in thing for one in led_to) and all(trees.meets(wish, trees.outcome(one)) for one in thing)


class TestIsGraph(unittest.TestCase):
    def test_the_graph_itself(self):
        rng = random.Random(1)
        for table in plain.tables(40, seed=61, most=4, marks=2):
            label = rng.choice(plain.all_labels(table))
            rows = trees.graph(table, label, most=300)
            if rows is not None:
                self.assertIs(is_graph(table, label, rows), True)
        self.assertIs(is_graph(trees.NEARLY, SPOT, graph_of(trees.NEARLY, SPOT)), True)

    def test_more_than_4000_rows(self):
        # It is judged without a search, however many ROWS there are.
        rows = trees.graph(trees.BEYOND, SPOT)
        self.assertEqual(len(rows), 4032)
        self.assertIs(is_graph(trees.BEYOND, SPOT, rows), True)
        self.assertIs(is_graph(trees.BEYOND, SPOT, rows[:4000]), False)

    def test_of_others(self):
        graphs = {table: graph_of(table, SPOT) for table in (ONE, BOX, DIAL, ELL, PAIR, TORUS, BENT)}
        for table, graph in graphs.items():
            for other, its in graphs.items():
                self.assertIs(is_graph(table, SPOT, its), graph == its)
        self.assertIs(is_graph(BOX, (0, 0, 1, 0), graphs[BOX]), False)
        self.assertIs(is_graph(BOX, (0, 0, 1, 0), graph_of(BOX, (0, 0, 1, 0))), True)

    def test_rows_left_out_twice_exchanged(self):
        graph = graph_of(ELL, SPOT)
        for at in range(len(graph)):
            self.assertIs(is_graph(ELL, SPOT, graph[:at] + graph[at + 1:]), False)
            self.assertIs(is_graph(ELL, SPOT, graph[:at] + graph[at:at + 1] + graph[at:]), False)
            self.assertIs(is_graph(ELL, SPOT, graph + graph[at:at + 1]), False)
            for other in range(at):
                rows = list(graph)
                rows[at], rows[other] = rows[other], rows[at]
                self.assertIs(is_graph(ELL, SPOT, tuple(rows)), False)

    def test_one_picture_in_two_rows(self):
        # Each ROW tells its led ones rightly, letters are one to one, ROWS are met in order: but each PICTURE is twice.
        graph = graph_of(plain.STRIP, SPOT)
        self.assertEqual([row[1:] for row in graph], [(0, 1), (2, 0), (1, 2)])
        order = [(0, 0)]
        rows = []
        for at, sheet in order:
            ways = []
            for there in ((graph[at][1], 1 - sheet if at == 0 else sheet), (graph[at][2], sheet)):
                if there not in order:
                    order.append(there)
                ways.append(order.index(there))
            rows.append((graph[at][0], *ways))
        self.assertEqual(len(rows), 6)
        for row in rows:
            self.assertEqual([rows[at][0] for at in row[1:]], [led(row[0], "l"), led(row[0], "r")])
        self.assertEqual([sorted(row[at] for row in rows) for at in (1, 2)], [list(range(6))] * 2)
        self.assertIs(is_graph(plain.STRIP, SPOT, tuple(rows)), False)

    def test_another_order(self):
        # The ROWS of one graph under other numbers: right ahead of left.
        graph = graph_of(BOX, SPOT)
        order = [0]
        for at in order:
            order.extend([there for there in graph[at][:0:-1] if there not in order])
        rows = tuple([(graph[at][0], order.index(graph[at][1]), order.index(graph[at][2])) for at in order])
        self.assertNotEqual(rows, graph)
        self.assertIs(is_graph(BOX, SPOT, rows), False)

    def test_one_index_otherwise(self):
        graph = graph_of(ELL, SPOT)
        for at, row in enumerate(graph):
            for place in (1, 2):
                for index in (row[place] - 1, row[place] + 1, -1, len(graph), 0, None, str(row[place]), (row[place],)):
                    if index != row[place]:
                        other = row[:place] + (index,) + row[place + 1:]
                        self.assertIs(is_graph(ELL, SPOT, changed(graph, at, other)), False)

    def test_truths_for_integers(self):
        graph = graph_of(BOX, SPOT)
        self.assertEqual(graph[0][1:], (1, 2))
        self.assertIs(is_graph(BOX, SPOT, changed(graph, 0, (graph[0][0], True, 2))), False)
        self.assertEqual(graph[1][1:], (0, 3))
        self.assertIs(is_graph(BOX, SPOT, changed(graph, 1, (graph[1][0], False, 3))), False)
        sides, ups, kinds = graph[2][0]
        for picture in ((tuple([True if at == 1 else at for at in sides]), ups, kinds),
                        (sides, tuple([False if at == 0 else at for at in ups]), kinds),
                        (sides, ups, tuple([(kind[0], False) for kind in kinds]))):
            self.assertEqual(picture, graph[2][0])
            self.assertIs(is_graph(BOX, SPOT, changed(graph, 2, (picture,) + graph[2][1:])), False)

    def test_lists_for_tuples(self):
        graph = graph_of(BOX, SPOT)
        sides, ups, kinds = graph[3][0]
        rows = [list(graph), changed(graph, 3, list(graph[3]))]
        for picture in ([sides, ups, kinds], (list(sides), ups, kinds), (sides, list(ups), kinds),
                        (sides, ups, list(kinds)), (sides, ups, tuple([list(kind) for kind in kinds]))):
            rows.append(changed(graph, 3, (picture,) + graph[3][1:]))
        for thing in rows:
            self.assertIs(is_graph(BOX, SPOT, thing), False)

    def test_values_of_any_kind(self):
        for table in (PAIR, BOX):
            for thing in plain.odd_values():
                self.assertIs(is_graph(table, SPOT, thing), False)
                self.assertIs(is_graph(table, SPOT, (thing,)), False)
                self.assertIs(is_graph(table, SPOT, ((thing, 0, 0),)), False)

    def test_one_part_otherwise(self):
        rng = random.Random(2)
        for table in (TORUS, plain.STRIP, BOX, ELL):
            graph = graph_of(table, SPOT)
            for _ in range(400):
                thing = judges.otherwise(rng, graph)
                # There is just one graph, and True shows otherwise than 1.
                self.assertIs(is_graph(table, SPOT, thing), repr(thing) == repr(graph))


class TestIsPaper(unittest.TestCase):
    def setUp(self):
        self.wish = (("", "a", "b", "c"), (0,), 1, 2, False)
        self.paper = tuple([row[0] for row in graph_of(ELL, SPOT)])

    def test_in_any_order(self):
        rng = random.Random(3)
        self.assertIs(is_paper(ELL, SPOT, self.wish, self.paper), True)
        self.assertIs(is_paper(ELL, SPOT, everything(ELL), self.paper), True)
        for _ in range(10):
            order = rng.sample(self.paper, len(self.paper))
            self.assertIs(is_paper(ELL, SPOT, self.wish, tuple(order)), True)
            self.assertIs(is_paper(ELL, SPOT, self.wish, order), False)

    def test_one_too_few(self):
        for at in range(len(self.paper)):
            self.assertIs(is_paper(ELL, SPOT, self.wish, self.paper[:at] + self.paper[at + 1:]), False)
        self.assertIs(is_paper(ELL, SPOT, self.wish, ()), False)
        self.assertIs(is_paper(ELL, SPOT, self.wish, self.paper[:1]), False)

    def test_one_letter_alone(self):
        # All that one letter leads to, again and again, but not what the other one does.
        for letter, other in ("lr", "rl"):
            some = [first_picture(ELL, SPOT)]
            while led(some[-1], letter) != some[0]:
                some.append(led(some[-1], letter))
            self.assertTrue(1 < len(some) < len(self.paper))
            self.assertNotIn(led(some[0], other), some)
            self.assertIs(is_paper(ELL, SPOT, self.wish, tuple(some)), False)

    def test_one_twice(self):
        for at in range(len(self.paper)):
            self.assertIs(is_paper(ELL, SPOT, self.wish, self.paper + self.paper[at:at + 1]), False)

    def test_an_outcome_that_is_not_met(self):
        for wish in ((("", "a", "c"), (0,), 1, 2, False), (("", "a", "b", "c"), (), 1, 2, False),
                     (("", "a", "b", "c"), (0,), 1, 1, False), (("", "a", "b", "c"), (0,), 2, 2, False),
                     (("", "a", "b", "c"), (1,), 1, 2, False)):
            self.assertIs(is_paper(ELL, SPOT, wish, self.paper), False)
        self.assertIs(is_paper(PAIR, SPOT, ((), (), 2, 4, True), tuple([row[0] for row in graph_of(PAIR, SPOT)])), True)
        self.assertIs(is_paper(PAIR, SPOT, ((), (), 2, 4, False), tuple([row[0] for row in graph_of(PAIR, SPOT)])),
                      False)

    def test_pictures_that_cannot_be_come_to(self):
        others = tuple([row[0] for row in graph_of(ELL, (2, 0, 1, 0))])
        self.assertEqual(set(others) & set(self.paper), set())
        wish = wish_for([outcome_of(picture) for picture in self.paper + others])
        # Each of them with both led ones: this is a PAPER, too, if all OUTCOMES are met.
        self.assertIs(is_paper(ELL, SPOT, wish, self.paper + others), True)
        self.assertIs(is_paper(ELL, SPOT, wish, others + self.paper), True)
        self.assertIs(is_paper(ELL, SPOT, wish, self.paper + others[1:]), False)
        self.assertIs(is_paper(ELL, SPOT, wish, self.paper + others[:1]), False)
        self.assertIs(is_paper(ELL, SPOT, wish, others), False)
        alone = ((0,), (0,), (("home", 7),))
        self.assertIs(is_paper(ELL, SPOT, self.wish, self.paper + (alone,)), False)
        self.assertIs(is_paper(ELL, SPOT, (("", "a", "b", "c", "home"), (0, 7), 1, 2, False), self.paper + (alone,)),
                      True)

    def test_of_another_spot(self):
        self.assertIs(is_paper(ELL, (1, 0, 0, 0), everything(ELL), self.paper), False)
        # Any PICTURE of it may be the first one, behind a WORD; it has to be that behind "".
        self.assertIn(picture_at(ELL, SPOT, "lrrl"), self.paper)
        self.assertIn(first_picture(ELL, SPOT), self.paper)

    def test_truths_and_lists(self):
        for at, (sides, ups, kinds) in enumerate(self.paper[:4]):
            for picture in ([sides, ups, kinds], (list(sides), ups, kinds), (sides, ups, list(kinds)),
                            (tuple([True if one == 1 else one for one in sides]), ups, kinds),
                            (sides, tuple([False if one == 0 else one for one in ups]), kinds),
                            (sides, ups, tuple([kind and (kind[0], False) for kind in kinds]))):
                self.assertIs(is_paper(ELL, SPOT, self.wish, changed(self.paper, at, picture)), False)

    def test_values_of_any_kind(self):
        for thing in plain.odd_values():
            for table in (PAIR, ELL):
                self.assertIs(is_paper(table, SPOT, self.wish, thing), False)
                self.assertIs(is_paper(table, SPOT, everything(table), (thing,)), False)
                self.assertIs(is_paper(table, SPOT, everything(table), (first_picture(table, SPOT), thing)), False)

    def test_one_part_otherwise(self):
        rng = random.Random(4)
        for table in (TORUS, plain.STRIP, BOX, ELL):
            paper = paper_for(table, SPOT, everything(table))
            for _ in range(300):
                thing = judges.otherwise(rng, paper)
                told = judged_paper(table, SPOT, everything(table), thing)
                self.assertIs(is_paper(table, SPOT, everything(table), thing), told)


class TestPaperFor(unittest.TestCase):
    def test_of_all_tables(self):
        rng = random.Random(5)
        papers = 0
        for table in plain.tables(60, seed=62):
            label = rng.choice(plain.all_labels(table))
            try:
                graph = graph_of(table, label)
            except TooMany:
                continue
            pictures = tuple([row[0] for row in graph])
            outcomes = list(outcomes_of(table, label))
            for wish in (everything(table), wish_for(outcomes), wish_for(outcomes[:1]), wish_for(outcomes[-1:])):
                paper = paper_for(table, label, wish)
                self.assertEqual(paper, pictures if all(meets(wish, one) for one in outcomes) else None)
                self.assertIs(is_paper(table, label, wish, pictures), paper is not None)
                papers += paper is not None
        self.assertTrue(papers > 60)

    def test_none(self):
        self.assertIsNone(paper_for(ELL, SPOT, (("a",), (0,), 1, 9, True)))
        self.assertIsNone(paper_for(PAIR, SPOT, ((), (), 2, 3, True)))

    def test_too_many(self):
        for wish in (everything(trees.BEYOND), ((), (), 1, 1, False)):
            with self.assertRaises(TooMany) as caught:
                paper_for(trees.BEYOND, SPOT, wish)
            self.assertEqual(caught.exception.most, 4000)


if __name__ == "__main__":
    unittest.main()
