"""What DOC.md promises over the whole program: [3] and [4], and the guarantees [5] to [10] over all files together."""

import copy
import importlib
import random
import re
import unittest

from hownarrow.alike import are_alike, couples_of
from hownarrow.balls import shot, stretch
from hownarrow.counts import counts_by_depth, counts_to, shares
from hownarrow.desk import Desk
from hownarrow.errors import TooMany
from hownarrow.games import Game
from hownarrow.graphs import graph_of, row_at
from hownarrow.kept import Kept
from hownarrow.leastgraph import least_of, outcome_by, row_behind
from hownarrow.narrow import simplest_shots
from hownarrow.papers import paper_for
from hownarrow.pictures import outcome_at, outcome_of, picture_at
from hownarrow.remainders import is_told_by, level_of
from hownarrow.settled import is_kept, outcomes_of
from hownarrow.squares import label_of, number_of, one_then, sides_of, turns_of, ups_of
from hownarrow.strips import above, ways_behind
from hownarrow.tabletexts import show_table
from hownarrow.wishes import everything, meets, wish_for
from hownarrow.words import range_of, slope_of, word_of
from tests import plain, trees
from tests.plain import BENT, BOX, DIAL, ELL, PAIR
from tests.test_language import INTERFACE

SPOT = (0, 0, 0, 0)
ALL = ((1, 0), (0, 1))
WISH = (("b", "d"), (0,), 1, 9, False)
GRAPH = graph_of(BOX, SPOT)
LEAST = least_of(GRAPH)
ROWS = couples_of(BOX, SPOT, DIAL, SPOT)
BALL = (SPOT, (1, 3), (1, 4))
SPOTS = ((0, 0, 0), (0, 1, 0))

# For each function of the interface arguments that it takes, lists and dicts among them where it may.
CALLS = {
    "forms": {
        "is_integer": (3,), "is_name": ("a",), "is_lot": ((0, 2),), "is_permutation": (2, (1, 0)), "is_end": ((1, 0),),
        "is_slope": ((1, 1),), "is_range": (ALL,), "is_word": ("lr",), "is_table": (BOX,), "is_edge": (BOX, ("up", 0)),
        "is_corner": (BOX, (0, 0, 0)), "is_label": (BOX, SPOT), "is_outcome": (("round", 1),),
        "is_picture": (GRAPH[0][0],), "is_wish": (WISH,), "corners_at": ([1, None], [None, 0], (0, 0, 0)),
    },
    "slopes": {
        "less_steep": ((2, 1), (1, 1)), "are_neighbours": ((1, 0), (0, 1)), "simpler": ((1, 1), (1, 2)),
        "lies_in": (ALL, (1, 1)), "added": ((1, 0), (0, 1)), "mirrored": ((1, 0),),
        "simplest_first": ([(2, 1), (1, 1), (2, 1)],), "slopes_up_to": (9,), "slopes_between": (ALL, 9),
    },
    "tables": {
        "edges_of": (BOX,), "edge_ahead": (BOX, SPOT, True), "permutation_of": (DIAL, ("right", 0)),
        "corners_of": (BOX,), "point_of": (BENT, (0, 1, 1)), "points_of": (BENT,),
        "made_table": (2, 2, [1, None], [None, None], [("left", 1, (1, 0))], [((1, 0, 0), "mid")]),
        "joined_to": (BENT, ("right", 0)), "pocket_at": (BOX, (0, 0, 0)), "table_fault": ([1],),
    },
    "tabletexts": {"show_table": (BOX,), "read_table": ("cells 1\nmarks 1",)},
    "drawings": {
        "lies_at": (BENT, ((0, 0), (1, 0), (0, 1))), "drawn": (BENT, ((0, 0), (1, 0), (0, 1))),
        "read_drawing": ("+-+\n|.|\n+-+",),
    },
    "otherwise": {
        "mirrored": (ELL, True), "turned": (ELL,), "renamed": (ELL, (2, 0, 1)), "refined": (ELL, 2),
        "refined_corner": (2, (0, 1, 1)), "with_dial": (DIAL, ("up", 0), (1, 0)), "with_pocket": (ELL, (0, 1, 1), "x"),
        "without_pocket": (BOX, (0, 0, 0)), "with_join": (BENT, "right", 1, 0), "without_join": (BENT, "right", 0),
    },
    "labels": {
        "labels_of": (BENT,), "sideways": (PAIR, SPOT), "up": (PAIR, SPOT), "from_sideways": (PAIR, SPOT),
        "from_up": (PAIR, SPOT), "about": (SPOT,),
    },
    "points": {
        "is_kept": (BENT, SPOT), "is_free": (BENT, (0, 1, 1)), "kept_labels": (BENT,), "holes_of": (BENT,),
        "falls_at": (BENT, (0, 1, 1)), "falls_of": (ELL,), "quarters_many": (BENT, (0, 1, 1)),
    },
    "squares": {
        "number_of": (PAIR, (1, 0, 1, 1)), "order_of": ((1, 2, 0),), "label_of": (PAIR, 5), "sides_of": (PAIR,),
        "ups_of": (PAIR,), "turns_of": (BENT,), "one_then": ((1, 0), (0, 1)), "turned_back": ((1, 2, 0),),
        "often": ((1, 2, 0), 10 ** 20), "kinds_of": (ELL,), "rounds_of": ((1, 0, 2),), "turns_at": (BENT, (0, 1, 1)),
    },
    "balls": {
        "stretch": (PAIR, SPOT, (3, 2)), "track": (PAIR, SPOT, (3, 2)), "shot": (PAIR, SPOT, (3, 2)),
        "contrary": (PAIR, SPOT, (3, 2)),
    },
    "places": {"place_at": (PAIR, SPOT, (3, 2), (5, 7)), "times_over": (PAIR, SPOT, (3, 2), ("right", 0))},
    "words": {
        "word_of": ((5, 3),), "word_by": ([("l", 2), ("r", 0)],), "exchanged": ("llr",), "neighbours_of": ("llr",),
        "slope_of": ("llr",), "range_of": ("llr",), "runs_of": ("llr",),
    },
    "ranges": {"simplest_in": (ALL,), "cover_of": (((3, 1), (1, 1)),), "node_in": (((3, 1), (1, 1)),)},
    "crossings": {"crossings_of": ((3, 2),), "straight": ((3, 2),), "way_of": ("lr",)},
    "pictures": {
        "numbered": ((1, 0), (0, 1), (None, None)), "first_picture": (BOX, SPOT), "led": (GRAPH[0][0], "l"),
        "picture_at": (BOX, SPOT, "lr"), "picture_of": (BOX, SPOT, (3, 2)), "outcome_of": (GRAPH[0][0],),
        "outcome_at": (BOX, SPOT, (3, 2)),
    },
    "wishes": {
        "meets": (WISH, ("round", 1)), "is_within": (WISH, WISH), "everything": (BOX,),
        "wish_for": ([("round", 2), ("falls", "a", 0, 1)],), "both": (WISH, WISH),
    },
    "graphs": {"graph_of": (BOX, SPOT), "row_at": (GRAPH, "lr"), "word_to": (GRAPH, 3), "way_back": (GRAPH, 3)},
    "papers": {
        "is_graph": (BOX, SPOT, GRAPH), "is_paper": (BOX, SPOT, WISH, [GRAPH]),
        "paper_for": (BOX, SPOT, everything(BOX)),
    },
    "settled": {
        "outcomes_of": (BOX, SPOT), "is_kept": (BOX, SPOT, WISH), "simplest_broken": (BOX, SPOT, WISH),
        "simplest_met": (BOX, SPOT, WISH), "first_met": (BOX, SPOT, WISH, 9),
    },
    "narrow": {
        "simplest_shot": (BOX, SPOT, WISH, ALL), "nearest_below": (BOX, SPOT, WISH, (1, 1), 9),
        "nearest_above": (BOX, SPOT, WISH, (1, 1), 9), "simplest_shots": (BOX, SPOT, ALL),
        "word_within": (BOX, SPOT, WISH, ALL),
    },
    "rounds": {"along": (BOX, SPOT, "", "lr"), "slope_along": ("l", "r", 9)},
    "alike": {
        "couples_of": (BOX, SPOT, DIAL, SPOT), "are_alike": (BOX, SPOT, BOX, SPOT),
        "is_couples": (BOX, SPOT, DIAL, SPOT, list(ROWS)), "parting_slope": (BOX, SPOT, DIAL, SPOT),
    },
    "leastgraph": {
        "least_of": (GRAPH,), "is_least": (list(LEAST),), "row_behind": (LEAST, "lr"), "outcome_by": (LEAST, (3, 2)),
        "rounds_by": (LEAST, "l"),
    },
    "remainders": {
        "level_of": (LEAST,), "marks_many": (LEAST, 2), "is_told_by": (LEAST, 2),
        "are_unlike": (LEAST, 3, [(1, 1), (4, 1)]), "remainder_table": (LEAST, 2), "unlike_slopes": (LEAST, 3),
    },
    "strips": {
        "above": (BENT, SPOT, (1, 2)), "row_of": (BENT, SPOT, (1, 2)), "rows_of": (BENT, (1, 2)),
        "strips_of": (BENT, (1, 2)), "row_above": (BENT, (1, 2), ((0, 0, 1, 0), (2, 1, 0, 0))),
    },
    "inner": {
        "is_ball": (BENT, list(BALL)), "meets_corners": (BALL, (1, 2)), "gone": (BENT, BALL, (1, 2)),
        "row_under": (BENT, BALL, (1, 2)), "strip_at": (BENT, BALL, (1, 2)), "round_of": (BENT, BALL, (1, 2)),
        "met_corner": (BENT, (SPOT, (1, 2), (1, 2)), (1, 1)),
    },
    "counts": {"counts_by_depth": (BOX, SPOT, 4), "shares": (BOX, SPOT), "counts_to": (BOX, SPOT, 9)},
    "cushions": {"cushions_of": (BOX, SPOT, (3, 2)), "fewest": (BOX, SPOT, WISH, 9)},
    "strokes": {
        "show_stroke": (((0, 0, 0), (1, 1)),), "read_stroke": (BOX, SPOTS, "0 1 0 3 2"),
        "best_stroke": (DIAL, SPOTS, {"d": 3, "a": 1}, 0, 3), "gains_of": (DIAL, SPOTS, {"d": 3, "a": 1}, 0),
        "value_of": (DIAL, SPOTS, {"d": 3, "a": 1}, 0, 3),
        "are_values": (BOX, SPOTS, {"d": 3, "a": 1}, 1, {(0, 1): 3, (0, 0): 0}),
    },
}


def held_in(thing):
    """All lists and dicts that are, or are in, a value."""
    found = [thing] if isinstance(thing, (list, dict)) else []
    parts = list(thing.values()) if isinstance(thing, dict) else thing if isinstance(thing, (list, tuple)) else []
    for part in parts:
        found.extend(held_in(part))
    return found


class TestCalls(unittest.TestCase):
    def each(self):
        for file, calls in CALLS.items():
            for name, args in calls.items():
                yield name, getattr(importlib.import_module("hownarrow." + file), name), args

    def test_all_functions_are_here(self):
        for file, told in INTERFACE.items():
            names = set(re.findall(r"(\w+)\(", told))
            if file not in ("errors", "games", "kept", "desk"):
                self.assertEqual(set(CALLS[file]), names, file)

    def test_no_argument_is_changed(self):
        for name, call, args in self.each():
            before = copy.deepcopy(args)
            call(*args)
            self.assertEqual(repr(args), repr(before), name)

    def test_equal_arguments_give_equal_results(self):
        rng = random.Random(1)
        calls = list(self.each())
        first = [repr(call(*args)) for _, call, args in calls]
        order = list(range(len(calls)))
        for _ in range(2):
            rng.shuffle(order)
            for at in order:
                name, call, args = calls[at]
                self.assertEqual(repr(call(*copy.deepcopy(args))), first[at], name)

    def test_what_is_returned_is_new(self):
        several = 0
        for name, call, args in self.each():
            told = call(*args)
            whole = repr(told)
            held = held_in(told)
            self.assertEqual(len({id(one) for one in held}), len(held), name)
            self.assertEqual({id(one) for one in held} & {id(one) for one in held_in(args)}, set(), name)
            for one in held:
                one.clear()
            self.assertEqual(repr(call(*args)), whole, name)
            several += bool(held)
        self.assertTrue(several > 12)

    def test_keys_are_ascending(self):
        for name, call, args in self.each():
            for one in held_in(call(*args)):
                if isinstance(one, dict):
                    self.assertEqual(list(one), sorted(one), name)

    def test_truths_are_truths(self):
        for name, call, args in self.each():
            told = call(*args)
            is_truth = re.match(r"(is|are)_|less_steep|simpler$|lies_in|lies_at|meets", name) is not None
            self.assertIs(type(told) is bool, is_truth, name)


class TestOneOutcome(unittest.TestCase):
    """[5]: whatever is asked, a SHOT has one OUTCOME."""

    def test_everywhere_the_same(self):
        rng = random.Random(2)
        shots = 0
        for table in plain.tables(30, seed=261, most=5, marks=3):
            label = rng.choice(plain.all_labels(table))
            try:
                graph = graph_of(table, label)
            except TooMany:
                continue
            least = least_of(graph)
            couples = couples_of(BOX, SPOT, table, label) if len(graph) < 100 else None
            kept, desk = Kept(table, label), Desk()
            desk.execute("table\n" + show_table(table))
            desk.execute("spot " + " ".join(map(str, label)))
            for slope in plain.slopes(8) + [(55, 34), (1, 90)]:
                outcome = plain.ball(table, label, slope)[0]
                word = word_of(slope)
                told = [shot(table, label, slope), outcome_at(table, label, slope), kept.outcome(slope),
                        outcome_of(picture_at(table, label, word)), outcome_of(graph[row_at(graph, word)][0]),
                        outcome_by(least, slope), least[row_behind(least, word)][0]]
                if couples is not None:
                    at = row_at([(None,) + row[2:] for row in couples], word)
                    told.append(outcome_of(couples[at][1]))
                self.assertEqual(set(told), {outcome})
                shown = desk.execute(f"shoot {slope[0]} {slope[1]}")[0].replace("-", "").split(" ")
                self.assertEqual(shown, [str(part) for part in outcome])
                if label[3] == 0:
                    self.assertEqual(Game(table, (label[:3],), {}).strike(label[:3], slope), outcome)
                shots += 1
        self.assertTrue(shots > 500)


class TestGuarantees(unittest.TestCase):
    def some(self, many, seed):
        rng = random.Random(seed)
        for table in plain.tables(many, seed=seed, most=4, marks=2):
            label = rng.choice(plain.all_labels(table))
            if trees.graph(table, label, most=300) is not None:
                yield table, label

    def test_all_slopes(self):
        # [6]: what is told of all SLOPES agrees, whichever way it is told.
        rng = random.Random(3)
        for table, label in self.some(25, 262):
            outcomes = list(outcomes_of(table, label))
            self.assertEqual(list(shares(table, label)), outcomes)
            self.assertTrue(set(counts_to(table, label, 12)) <= set(outcomes))
            self.assertTrue(set(counts_by_depth(table, label, 6)[6]) <= set(outcomes))
            for _ in range(4):
                wish = wish_for(rng.sample(outcomes, rng.randint(1, len(outcomes))))
                met = all([meets(wish, outcome) for outcome in outcomes])
                self.assertIs(is_kept(table, label, wish), met)
                self.assertIs(paper_for(table, label, wish) is not None, met)
                kept = Kept(table, label)
                kept.put_wish("a", wish)
                self.assertEqual([kept.kept(), kept.broken() == {}], [{"a": met}, met])

    def test_however_narrow(self):
        # [7]: each OUTCOME comes beneath each WORD, with a SLOPE whose SHOT has it.
        rng = random.Random(4)
        for table, label in self.some(20, 263):
            outcomes = list(outcomes_of(table, label))
            word = "".join([rng.choice("lr") for _ in range(rng.randint(0, 9))])
            told = simplest_shots(table, label, range_of(word))
            self.assertEqual(list(told), outcomes)
            for outcome, slope in told.items():
                self.assertTrue(word_of(slope).startswith(word))
                if sum(slope) < 300:
                    self.assertEqual(plain.ball(table, label, slope)[0], outcome)

    def test_alike(self):
        # [8]: alike just if the LEAST GRAPHS are equal, and then all is told alike.
        found = list(self.some(16, 264))
        for one, spot in found:
            for other, second in found:
                if len(graph_of(one, spot)) * len(graph_of(other, second)) < 3000:
                    same = least_of(graph_of(one, spot)) == least_of(graph_of(other, second))
                    self.assertIs(are_alike(one, spot, other, second), same)
                    if same:
                        self.assertEqual(outcomes_of(one, spot), outcomes_of(other, second))
                        self.assertEqual(shares(one, spot), shares(other, second))

    def test_remainders(self):
        # [9]: told by some number just if by the level, and then it holds for all SHOTS.
        told = 0
        for table, label in self.some(25, 265):
            least = least_of(graph_of(table, label))
            level = level_of(least)
            if level > 6 or len(least) > 60 or not is_told_by(least, level):
                continue
            met = {}
            for slope in plain.slopes(14):
                key = (slope[0] % level, slope[1] % level)
                self.assertEqual(met.setdefault(key, shot(table, label, slope)), shot(table, label, slope))
            told += len(met) > 1
        self.assertTrue(told > 3)

    def test_why(self):
        # [10]: A THEN B is a STRETCH, B THEN A one ABOVE, and the way round each POINT is behind each WORD the same.
        rng = random.Random(5)
        for table in plain.tables(15, seed=266, most=5, marks=3):
            turns = turns_of(table)
            for _ in range(4):
                slope = slope_of("".join([rng.choice("lr") for _ in range(rng.randint(0, 6))]))
                aside, over = ways_behind(table, slope)
                through, beyond = one_then(aside, over), one_then(over, aside)
                self.assertEqual(one_then(through, turns), beyond)
                for label in rng.sample(plain.all_labels(table), 4):
                    number = number_of(table, label)
                    self.assertEqual(label_of(table, through[number]), stretch(table, label, slope)[1])
                    self.assertEqual(label_of(table, beyond[number]), above(table, label, slope))
            self.assertEqual(one_then(one_then(sides_of(table), ups_of(table)), turns),
                             one_then(ups_of(table), sides_of(table)))


if __name__ == "__main__":
    unittest.main()
