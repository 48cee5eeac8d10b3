"""[37]: games."""

import random
import unittest

from hownarrow.desk import Desk
from hownarrow.errors import Nothing, Wrong
from hownarrow.games import Game
from hownarrow.kept import Kept
from tests import judges, plain
from tests.plain import BOX, DIAL, ELL, PAIR, SEVERAL, TORUS

TURNING = (1, 2, (None,), (None,), ((("right", 0), (1, 0)),), (((0, 0, 1), "low"), ((0, 1, 1), "far")))
SPOTS = ((0, 0, 0), (0, 1, 0))
WORTHS = {"far": 3, "low": 1}


def played(table, worths, strokes):
    """(outcomes, scores, dial) of STROKES done in order from the beginning, by single balls."""
    outcomes, scores, mark = [], [0, 0], 0
    for at, (seat, slope) in enumerate(strokes):
        outcome = plain.ball(table, seat + (mark,), slope)[0]
        if outcome[0] == "falls":
            scores[at % 2] += worths.get(outcome[1], 0)
            mark = outcome[2]
        outcomes.append(outcome)
    return tuple(outcomes), tuple(scores), mark


def judged_spots(table, thing):
    if type(thing) is not tuple or not thing or not all(judges.corner(table[0], seat) for seat in thing):
        return False
    return list(thing) == sorted(set(thing))


def judged_worths(thing):
    if type(thing) is not dict:
        return False
    return all(judges.name_or_empty(name) and judges.whole(worth, -1000, 1001) for name, worth in thing.items())


def judged_slope(thing):
    return judges.slope(thing) and max(thing) <= 4000


def odd_values():
    return plain.odd_values() + [
        Game(TURNING, SPOTS, WORTHS), Kept(BOX, (0, 0, 0, 0)), Desk(), SPOTS, WORTHS, TURNING, (0, 0, 0), (0, 0, 0, 0),
        (1, 1), (2, 2), (4000, 4001), (4001, 1), (4000, 3999), (True, 1), [0, 0, 0], ((0, 0, 0), [0, 1, 0]), 4000, -1,
        {"a": True}, {"A": 1}, {"": -1000}, {"": -1001}, {"a": 1000}, {"a": 1001}, {1: 1}, {("a",): 1}, {"a": "1"},
        ((0, 1, 0), (0, 0, 0)), ((0, 0, 0), (0, 0, 0)), ((0, 0, 2),), ((1, 0, 0),), ((0, False, 0),), (False, 0, 0),
    ]


def random_game(rng, table=None):
    """A Game and the table, spots and worths of which it was made."""
    table = table or plain.random_table(rng, most=4, marks=3)
    corners = plain.all_corners(table)
    spots = tuple(sorted(rng.sample(corners, rng.randint(1, min(3, len(corners))))))
    names = ["", "a", "b", "home", "abcdefghijkl", "zzz"]
    worths = {name: rng.randint(-1000, 1000) for name in rng.sample(names, rng.randint(0, 5))}
    return Game(table, spots, worths), table, spots, worths


class TestMade(unittest.TestCase):
    def test_at_first(self):
        game = Game(TURNING, SPOTS, WORTHS)
        self.assertEqual([game.table(), game.spots(), game.worths()], [TURNING, SPOTS, WORTHS])
        self.assertEqual([game.strokes(), game.outcomes(), game.scores(), game.dial(), game.turn()],
                         [(), (), (0, 0), 0, 0])

    def test_it_copies_and_returns_new(self):
        worths = {"low": 1, "far": 3}
        game = Game(TURNING, SPOTS, worths)
        worths["low"] = 99
        self.assertEqual(list(game.worths().items()), [("far", 3), ("low", 1)])
        game.worths().clear()
        self.assertEqual(game.worths(), WORTHS)
        self.assertIsNot(game.worths(), game.worths())

    def test_wrong(self):
        for thing in odd_values():
            for place, good, args in ((0, judges.fault(thing) is None, (thing, SPOTS, WORTHS)),
                                      (1, judged_spots(TURNING, thing), (TURNING, thing, WORTHS)),
                                      (2, judged_worths(thing), (TURNING, SPOTS, thing))):
                if good and place > 0:
                    Game(*args)
                elif not good:
                    with self.assertRaises(Wrong) as caught:
                        Game(*args)
                    self.assertEqual(caught.exception.place, place)

    def test_two_wrong_ones(self):
        for args, place in (((None, None, None), 0), ((TURNING, None, None), 1), ((TURNING, (), {"A": 1}), 1),
                            ((TURNING, SPOTS, {"A": 1}), 2), (([], SPOTS, []), 0)):
            with self.assertRaises(Wrong) as caught:
                Game(*args)
            self.assertEqual(caught.exception.place, place)

    def test_edges(self):
        for worths in ({}, {"": 0}, {"a": -1000, "b": 1000}, {"abcdefghijkl": 1}):
            self.assertEqual(Game(BOX, ((0, 1, 1),), worths).worths(), worths)
        for worths in ({"a": -1001}, {"a": 1001}, {"abcdefghijklm": 1}, {"a": False}, {None: 1}, [("a", 1)]):
            with self.assertRaises(Wrong):
                Game(BOX, ((0, 1, 1),), worths)


class TestStrokes(unittest.TestCase):
    def check(self, game, table, worths, strokes):
        outcomes, scores, mark = played(table, worths, strokes)
        self.assertEqual(game.strokes(), tuple(strokes))
        self.assertEqual(game.outcomes(), outcomes)
        self.assertEqual(game.scores(), scores)
        self.assertEqual(game.dial(), mark)
        self.assertEqual(game.turn(), len(strokes) % 2)

    def test_some(self):
        game = Game(TURNING, SPOTS, WORTHS)
        self.assertEqual(game.strike((0, 0, 0), (1, 1)), ("falls", "far", 1, 1))
        self.assertEqual([game.dial(), game.turn(), game.scores()], [1, 1, (3, 0)])
        self.assertEqual([game.strike((0, 1, 0), (1, 1)), game.strike((0, 0, 0), (2, 1))],
                         [("falls", "low", 1, 1), ("falls", "low", 0, 1)])
        self.assertEqual([game.scores(), game.dial(), game.turn()], [(4, 1), 0, 1])
        self.assertIsNone(game.struck(0))
        self.assertEqual([game.outcomes(), game.scores()],
                         [(("falls", "low", 0, 1), ("falls", "low", 1, 1)), (1, 1)])
        self.assertIsNone(game.undo())
        self.assertEqual(game.scores(), (4, 1))

    def test_a_name_without_a_worth_and_a_round(self):
        game = Game(BOX, SPOTS, {"a": 7})
        self.assertEqual([game.strike((0, 0, 0), (1, 1)), game.scores()], [("falls", "d", 0, 1), (0, 0)])
        game = Game(PAIR, ((0, 0, 0),), {"": 5})
        self.assertEqual([game.strike((0, 0, 0), (1, 1)), game.scores(), game.dial()], [("round", 4), (0, 0), 0])
        # A HOLE without a pocket has the name "".
        game = Game(ELL, ((0, 0, 0),), {"": -5})
        self.assertEqual([game.strike((0, 0, 0), (1, 1)), game.scores()], [("falls", "", 0, 1), (-5, 0)])

    def test_the_dial_stays_at_a_round(self):
        # Down in the middle, to turn the dial; then a ball that comes round with the dial as it is.
        table = (2, 2, (None, None), (None, None), ((("right", 0), (1, 0)),), (((0, 1, 1), "x"),))
        game = Game(table, ((0, 0, 0), (1, 0, 0)), {})
        strokes = [((0, 0, 0), (1, 1)), ((1, 0, 0), (1, 1)), ((0, 0, 0), (1, 1))]
        for stroke in strokes:
            game.strike(*stroke)
        self.check(game, table, {}, strokes)
        self.assertEqual(game.outcomes()[1], ("round", 2))
        self.assertEqual([outcome[2] for outcome in game.outcomes()[::2]], [1, 0])

    def test_as_if_done_in_order(self):
        rng = random.Random(1)
        late = out = back = 0
        for round_many in range(40):
            game, table, spots, worths = random_game(rng, rng.choice((TURNING, DIAL, ELL, SEVERAL, None)))
            strokes, before = [], []
            for _ in range(25):
                seat = rng.choice(spots)
                slope = rng.choice(plain.slopes(6) + [(40, 39)])
                what = rng.random()
                if what < 0.35:
                    before.append(list(strokes))
                    strokes.append((seat, slope))
                    self.assertEqual(game.strike(seat, slope), game.outcomes()[-1])
                elif what < 0.6:
                    before.append(list(strokes))
                    at = rng.randint(0, len(strokes))
                    strokes.insert(at, (seat, slope))
                    self.assertIsNone(game.told(at, seat, slope))
                    late += 1
                elif what < 0.75 and strokes:
                    before.append(list(strokes))
                    at = rng.randrange(len(strokes))
                    del strokes[at]
                    self.assertIsNone(game.struck(at))
                    out += 1
                elif before:
                    strokes = before.pop()
                    self.assertIsNone(game.undo())
                    back += 1
                else:
                    with self.assertRaises(Nothing):
                        game.undo()
                if round_many % 4 == 0:
                    self.check(game, table, worths, strokes)
            self.check(game, table, worths, strokes)
        self.assertTrue(late > 100 and out > 50 and back > 100)

    def test_told_late_at_each_place(self):
        strokes = [((0, 0, 0), (1, 1)), ((0, 1, 0), (2, 1)), ((0, 0, 0), (2, 3)), ((0, 1, 0), (1, 1))]
        for at in range(5):
            game = Game(TURNING, SPOTS, WORTHS)
            for stroke in strokes:
                game.strike(*stroke)
            game.told(at, (0, 0, 0), (3, 1))
            self.check(game, TURNING, WORTHS, strokes[:at] + [((0, 0, 0), (3, 1))] + strokes[at:])
            game.undo()
            self.check(game, TURNING, WORTHS, strokes)
        for at in range(4):
            game.struck(at)
            self.check(game, TURNING, WORTHS, strokes[:at] + strokes[at + 1:])
            game.undo()

    def test_more_often_than_there_is_something(self):
        game = Game(TURNING, SPOTS, WORTHS)
        for call in (game.undo, lambda: game.struck(0), lambda: game.told(1, (0, 0, 0), (1, 1))):
            with self.assertRaises(Nothing):
                call()
        self.assertEqual(game.strokes(), ())
        game.strike((0, 0, 0), (1, 1))
        game.undo()
        with self.assertRaises(Nothing):
            game.undo()
        # A refused call is nothing that could be taken back.
        game.told(0, (0, 0, 0), (2, 1))
        for at in (1, 2, 10 ** 39):
            with self.assertRaises(Nothing):
                game.struck(at)
        for at in (2, 10 ** 39):
            with self.assertRaises(Nothing):
                game.told(at, (0, 0, 0), (1, 1))
        game.undo()
        self.assertEqual(game.strokes(), ())

    def test_slopes_up_to_4000(self):
        game = Game(TURNING, SPOTS, WORTHS)
        strokes = [((0, 0, 0), slope) for slope in ((4000, 3999), (1, 4000), (4000, 1))]
        for stroke in strokes:
            game.strike(*stroke)
        self.check(game, TURNING, WORTHS, strokes)
        for slope in ((4001, 1), (1, 4001), (4000, 4001)):
            with self.assertRaises(Wrong):
                game.strike((0, 0, 0), slope)

    def test_wrong(self):
        game = Game(TURNING, SPOTS, WORTHS)
        game.strike((0, 1, 0), (2, 1))
        twin = game.twin()
        for thing in odd_values():
            seat_good = judges.corner(1, thing) and thing in SPOTS
            for call, place, good in ((lambda: game.strike(thing, (1, 1)), 0, seat_good),
                                      (lambda: game.strike((0, 0, 0), thing), 1, judged_slope(thing)),
                                      (lambda: game.told(thing, (0, 0, 0), (1, 1)), 0, judges.whole(thing)),
                                      (lambda: game.told(0, thing, (1, 1)), 1, seat_good),
                                      (lambda: game.told(0, (0, 0, 0), thing), 2, judged_slope(thing)),
                                      (lambda: game.struck(thing), 0, judges.whole(thing))):
                if not good:
                    with self.assertRaises(Wrong) as caught:
                        call()
                    self.assertEqual(caught.exception.place, place)
        self.assertEqual(game, twin)
        self.assertEqual((game.outcomes(), game.dial()), (twin.outcomes(), twin.dial()))
        game.undo()
        with self.assertRaises(Nothing):
            game.undo()

    def test_wrong_ahead_of_nothing(self):
        game = Game(TURNING, SPOTS, WORTHS)
        for call, place in ((lambda: game.told(9, None, (1, 1)), 1), (lambda: game.told(9, (0, 0, 0), (2, 2)), 2),
                            (lambda: game.told(9, None, None), 1), (lambda: game.told(-1, None, None), 0),
                            (lambda: game.strike(None, None), 0), (lambda: game.struck(-1), 0),
                            (lambda: game.told(True, (0, 0, 0), (1, 1)), 0), (lambda: game.struck(False), 0),
                            (lambda: game.strike((0, 0, 1), (1, 1)), 0), (lambda: game.strike((False, 0, 0), (1, 1)), 0)):
            with self.assertRaises(Wrong) as caught:
                call()
            self.assertEqual(caught.exception.place, place)


class TestTwins(unittest.TestCase):
    def test_they_go_on_apart(self):
        rng = random.Random(2)
        game, table, spots, worths = random_game(rng, TURNING)
        strokes = []
        for _ in range(5):
            strokes.append((rng.choice(spots), rng.choice(plain.slopes(5))))
            game.strike(*strokes[-1])
        twin = game.twin()
        self.assertIsInstance(twin, Game)
        self.assertIsNot(twin, game)
        self.assertEqual(twin, game)
        game.struck(1)
        twin.told(2, spots[0], (5, 4))
        self.assertEqual([game.strokes(), twin.strokes()],
                         [tuple(strokes[:1] + strokes[2:]), tuple(strokes[:2] + [(spots[0], (5, 4))] + strokes[2:])])
        self.assertNotEqual(twin, game)
        # What can be taken back is in both.
        for one in (game, twin):
            one.undo()
            for many in range(5, 0, -1):
                self.assertEqual(one.strokes(), tuple(strokes[:many]))
                one.undo()
            with self.assertRaises(Nothing):
                one.undo()
        self.assertEqual(game, twin)

    def test_equal_and_unequal(self):
        game = Game(TURNING, SPOTS, WORTHS)
        self.assertTrue(game == Game(TURNING, SPOTS, {"low": 1, "far": 3}))
        self.assertFalse(game != Game(TURNING, SPOTS, WORTHS))
        for other in (Game(DIAL, SPOTS, WORTHS), Game(TURNING, SPOTS[:1], WORTHS), Game(TURNING, SPOTS, {"far": 3})):
            self.assertIs(game == other, False)
            self.assertIs(game != other, True)
        other = Game(TURNING, SPOTS, WORTHS)
        other.strike((0, 0, 0), (1, 1))
        self.assertFalse(game == other)
        # What was taken back is no matter, nor is the way to the same STROKES.
        other.undo()
        self.assertTrue(game == other)
        game.strike((0, 1, 0), (1, 1))
        game.told(0, (0, 0, 0), (2, 1))
        other.strike((0, 0, 0), (2, 1))
        other.strike((0, 1, 0), (1, 1))
        self.assertTrue(game == other)
        # The same OUTCOMES by another SLOPE are other STROKES.
        one, two = Game(TORUS, ((0, 0, 0),), {}), Game(TORUS, ((0, 0, 0),), {})
        one.strike((0, 0, 0), (1, 2))
        two.strike((0, 0, 0), (2, 1))
        self.assertEqual(one.outcomes(), two.outcomes())
        self.assertFalse(one == two)

    def test_beside_another_value(self):
        game = Game(TURNING, SPOTS, WORTHS)
        for thing in plain.odd_values() + [Kept(TURNING, (0, 0, 0, 0)), Desk(), Game]:
            self.assertIs(game == thing, False)
            self.assertIs(game != thing, True)
            self.assertIs(thing == game, False)


if __name__ == "__main__":
    unittest.main()
