"""[31] and [8]: least graphs."""

import random
import unittest

from hownarrow.alike import are_alike
from hownarrow.graphs import graph_of
from hownarrow.leastgraph import is_least, least_of, outcome_by, row_behind, rounds_by
from hownarrow.otherwise import without_pocket
from hownarrow.pictures import outcome_at
from tests import judges, plain, trees
from tests.plain import BOX, DIAL, ELL, ONE, PAIR, STRIP, TORUS

SPOT = (0, 0, 0, 0)


def table_filled(outcomes, lefts, rights):
    """For each couple of rows whether they are ALIKE: unlike ones are marked until nothing is left to mark."""
    many = len(outcomes)
    unlike = {(one, other) for one in range(many) for other in range(many) if outcomes[one] != outcomes[other]}
    grown = True
    while grown:
        grown = False
        for one in range(many):
            for other in range(many):
                if (one, other) not in unlike and ((lefts[one], lefts[other]) in unlike
                                                   or (rights[one], rights[other]) in unlike):
                    unlike.add((one, other))
                    grown = True
    return unlike


def plain_least(rows):
    """The LEAST GRAPH of the ROWS of a GRAPH, from the definition."""
    outcomes = [trees.outcome(row[0]) for row in rows]
    lefts, rights = [row[1] for row in rows], [row[2] for row in rows]
    unlike = table_filled(outcomes, lefts, rights)
    kind = [min(other for other in range(len(rows)) if (one, other) not in unlike) for one in range(len(rows))]
    met = [0]
    for one in met:
        for there in (kind[lefts[one]], kind[rights[one]]):
            if there not in met:
                met.append(there)
    return tuple([(outcomes[one], met.index(kind[lefts[one]]), met.index(kind[rights[one]])) for one in met])


def judged(thing):
    """Whether thing is a LEAST GRAPH, by the words of [31]."""
    if type(thing) is not tuple or not thing:
        return False
    many = len(thing)
    for row in thing:
        if not judges.parts(row, 3) or not judges.outcome(row[0]):
            return False
        if not all(judges.whole(index, 0, many) for index in row[1:]):
            return False
    lefts, rights = [row[1] for row in thing], [row[2] for row in thing]
    if len(set(lefts)) != many or len(set(rights)) != many:
        return False
    met = [0]
    for one in met:
        for there in (lefts[one], rights[one]):
            if there not in met:
                met.append(there)
    if met != list(range(many)):
        return False
    return len(table_filled([row[0] for row in thing], lefts, rights)) == many * (many - 1)


def some_graphs(many, seed, most=120, cells=4):
    """(TABLE, SPOT, ROWS) of TABLES whose GRAPH is not great."""
    rng = random.Random(seed)
    found = []
    for table in plain.tables(many, seed=seed, most=cells, marks=2):
        label = rng.choice(plain.all_labels(table))
        rows = trees.graph(table, label, most=most)
        if rows is not None:
            found.append((table, label, rows))
    return found


class TestLeastOf(unittest.TestCase):
    def test_one_row(self):
        self.assertEqual(least_of(graph_of(TORUS, SPOT)), ((("round", 1), 0, 0),))
        self.assertEqual(least_of(graph_of(ONE, SPOT)), ((("round", 2), 0, 0),))

    def test_many_rows_alike(self):
        # A pocket at each CORNER with one name: many PICTURES, and one OUTCOME.
        table = ELL[:5] + (tuple([(one[0], "a") for one in plain.points(ELL)]),)
        graph = graph_of(table, SPOT)
        self.assertTrue(len(graph) > 1)
        self.assertEqual(least_of(graph), ((("falls", "a", 0, 1), 0, 0),))

    def test_none_alike(self):
        for table in (BOX, STRIP):
            graph = graph_of(table, SPOT)
            self.assertEqual(least_of(graph), tuple([(trees.outcome(row[0]),) + row[1:] for row in graph]))

    def test_against_the_definition(self):
        fewer = 0
        for _, _, rows in some_graphs(120, 171, most=160, cells=5):
            least = least_of(rows)
            self.assertEqual(least, plain_least(rows))
            self.assertIs(judged(least), True)
            # All kinds of rows that are ALIKE have as many rows, as letters are one to one.
            self.assertEqual(len(rows) % len(least), 0)
            fewer += 1 < len(least) < len(rows)
        self.assertTrue(fewer > 4)

    def test_same_outcome_behind_each_word(self):
        rng = random.Random(1)
        for table, label, rows in some_graphs(20, 172) + [(trees.NEARLY, SPOT, graph_of(trees.NEARLY, SPOT))]:
            least = least_of(rows)
            for word in trees.words(4) + ["".join([rng.choice("lr") for _ in range(200)]) for _ in range(3)]:
                here = trees.go_along(rows, 0, word)
                self.assertEqual(least[trees.go_along(least, 0, word)][0], trees.outcome(rows[here][0]))

    def test_equal_where_alike_and_nowhere_else(self):
        graphs = some_graphs(25, 173, most=60)
        graphs.append((without_pocket(BOX, (0, 0, 0)), SPOT, graph_of(without_pocket(BOX, (0, 0, 0)), SPOT)))
        equal = 0
        for at, (one, spot, rows) in enumerate(graphs):
            for other, second, its in graphs[:at]:
                same = least_of(rows) == least_of(its)
                self.assertIs(are_alike(one, spot, other, second), same)
                equal += same
        self.assertTrue(equal > 5)


class TestIsLeast(unittest.TestCase):
    def test_least_graphs(self):
        for _, _, rows in some_graphs(40, 174):
            self.assertIs(is_least(least_of(rows)), True)
        self.assertIs(is_least(least_of(graph_of(trees.NEARLY, SPOT))), True)

    def test_of_graphs_themselves(self):
        # The rows of a GRAPH with their OUTCOMES are one just if none are ALIKE.
        yes = no = 0
        for _, _, rows in some_graphs(120, 175, most=160, cells=5):
            told = tuple([(trees.outcome(row[0]),) + row[1:] for row in rows])
            self.assertIs(is_least(told), told == least_of(rows))
            yes += told == least_of(rows)
            no += told != least_of(rows)
        self.assertTrue(yes > 5 and no > 5)

    def test_otherwise_doubled_exchanged(self):
        least = least_of(graph_of(ELL, SPOT))
        for at, row in enumerate(least):
            self.assertIs(is_least(least[:at] + least[at + 1:]), False)
            self.assertIs(is_least(least[:at] + (row, row) + least[at + 1:]), False)
            self.assertIs(is_least(least + (row,)), False)
            for other in range(at):
                changed = list(least)
                changed[at], changed[other] = changed[other], changed[at]
                self.assertIs(is_least(tuple(changed)), judged(tuple(changed)))
            for index in range(len(least)):
                for place in (1, 2):
                    changed = least[:at] + (row[:place] + (index,) + row[place + 1:],) + least[at + 1:]
                    self.assertIs(is_least(changed), changed == least)

    def test_rows_that_cannot_be_come_to(self):
        self.assertIs(is_least(((("round", 1), 0, 0), (("round", 2), 1, 1))), False)
        self.assertIs(is_least(((("round", 1), 0, 1), (("round", 2), 1, 0))), True)
        # Two rows in a wrong order: right ahead of left.
        self.assertIs(is_least(((("round", 1), 2, 1), (("round", 2), 1, 0), (("round", 3), 0, 2))), False)
        self.assertIs(is_least(((("round", 1), 1, 2), (("round", 3), 0, 1), (("round", 2), 2, 0))), True)

    def test_not_one_to_one(self):
        self.assertIs(is_least(((("round", 1), 1, 0), (("round", 2), 1, 1))), False)
        self.assertIs(is_least(((("round", 1), 1, 1), (("round", 2), 0, 1))), False)

    def test_rows_alike(self):
        self.assertIs(is_least(((("round", 1), 1, 0), (("round", 1), 0, 1))), False)
        # Told apart only by many letters.
        many = 60
        rows = [[("round", 1), (at + 1) % many, at] for at in range(many)]
        self.assertIs(is_least(tuple([tuple(row) for row in rows])), False)
        rows[37][0] = ("round", 2)
        self.assertIs(is_least(tuple([tuple(row) for row in rows])), True)
        rows[7][0] = ("round", 2)
        self.assertIs(is_least(tuple([tuple(row) for row in rows])), False)

    def test_truths_and_lists(self):
        least = least_of(graph_of(BOX, SPOT))
        self.assertEqual(least[0][1:], (1, 2))
        for row in ((least[0][0], True, 2), (("falls", "d", False, 1), 1, 2), (("falls", "d", 0, True), 1, 2),
                    list(least[0]), (list(least[0][0]), 1, 2)):
            self.assertIs(is_least((row,) + least[1:]), False)
        self.assertIs(is_least(list(least)), False)

    def test_values_of_any_kind(self):
        for thing in plain.odd_values():
            self.assertIs(is_least(thing), False)
            self.assertIs(is_least((thing,)), False)
            self.assertIs(is_least(((thing, 0, 0),)), judged(((thing, 0, 0),)))
        self.assertIs(is_least(((("round", 1), 0, 0),)), True)

    def test_one_part_otherwise(self):
        rng = random.Random(2)
        right = 0
        for table in (TORUS, STRIP, BOX, PAIR, ELL):
            least = least_of(graph_of(table, SPOT))
            for _ in range(500):
                thing = judges.otherwise(rng, least)
                self.assertIs(is_least(thing), judged(thing))
                right += judged(thing)
        self.assertTrue(right > 100)


class TestAlongWords(unittest.TestCase):
    def test_row_behind(self):
        for _, _, rows in some_graphs(15, 176):
            least = least_of(rows)
            for word in trees.words(6):
                self.assertEqual(row_behind(least, word), trees.go_along(least, 0, word))
        self.assertEqual(row_behind(least_of(graph_of(BOX, SPOT)), "lr"), 3)

    def test_outcome_by(self):
        for table, label, rows in some_graphs(20, 177):
            least = least_of(rows)
            for slope in plain.slopes(15):
                self.assertEqual(outcome_by(least, slope), plain.ball(table, label, slope)[0])

    def test_forty_digits(self):
        rng = random.Random(3)
        for table, label, rows in some_graphs(10, 178):
            least = least_of(rows)
            for _ in range(5):
                word = "".join([rng.choice("lr") for _ in range(190)])
                slope = trees.middle(word)
                self.assertTrue(sum(slope) > 10 ** 25)
                self.assertEqual(outcome_by(least, slope), least[trees.go_along(least, 0, word)][0])

    def test_very_long_runs(self):
        rng = random.Random(4)
        great = 10 ** 40
        for table, label, rows in some_graphs(20, 179):
            least = least_of(rows)
            rounds = [len(one) for letter in "lr" for one in rounds_by(least, letter)]
            order = 1
            for one in rounds:
                order *= one
            for many in (great, great + 1, rng.randrange(great), order, order - 1, order + 1, order * great + 2):
                # l told many times, and then r: as many times as the remainder by all rounds.
                few = many % order
                here = 0
                for _ in range(few % len(rounds_by(least, "l")[0])):
                    here = least[here][1]
                self.assertEqual(outcome_by(least, (many + 1, 1)), least[here][0])
                self.assertEqual(outcome_by(least, (2 * many + 1, 2)), outcome_at(table, label, (2 * few + 1, 2)))

    def test_rounds_by(self):
        least = least_of(graph_of(BOX, SPOT))
        self.assertEqual(rounds_by(least, "l"), [(0, 1), (2, 4), (3, 5)])
        self.assertEqual(rounds_by(least, "r"), [(0, 2), (1, 3), (4, 5)])
        for _, _, rows in some_graphs(20, 180):
            least = least_of(rows)
            for place, letter in ((1, "l"), (2, "r")):
                told = rounds_by(least, letter)
                expected = set()
                for start in range(len(least)):
                    members, here = {start}, least[start][place]
                    while here != start:
                        members.add(here)
                        here = least[here][place]
                    expected.add(tuple(sorted(members)))
                self.assertEqual(told, sorted(expected))

    def test_new_lists(self):
        least = least_of(graph_of(BOX, SPOT))
        rounds_by(least, "l").clear()
        self.assertEqual(len(rounds_by(least, "l")), 3)


if __name__ == "__main__":
    unittest.main()
