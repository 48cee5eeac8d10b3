"""[39]: kept TABLES."""

import random
import unittest

from hownarrow.desk import Desk
from hownarrow.errors import Nothing, TooMany, Wrong
from hownarrow.games import Game
from hownarrow.kept import Kept
from tests import judges, plain, trees
from tests.plain import BENT, BOX, DIAL, ELL, PAIR, STRIP, TORUS
from tests.test_games import judged_slope, odd_values

SPOT = (0, 0, 0, 0)
NEVER = (("b", "c", "d"), (0,), 1, 1, False)
FAR = (("d",), (0,), 1, 1, False)
ROUND = ((), (), 1, 99, True)


class Model:
    """What a Kept is to keep, done in the plain: a list of all states."""

    def __init__(self, table, label):
        self.states = [(table, label, {})]

    def put(self, state):
        if state == self.states[-1]:
            return False
        self.states.append(state)
        return True

    def put_table(self, table):
        _, label, wishes = self.states[-1]
        return self.put((table, label if judges.label(table, label) else SPOT, wishes))

    def put_spot(self, label):
        table, _, wishes = self.states[-1]
        return self.put((table, label, wishes))

    def put_wish(self, name, wish):
        table, label, wishes = self.states[-1]
        return self.put((table, label, {**wishes, name: wish}))

    def take_wish(self, name):
        table, label, wishes = self.states[-1]
        return self.put((table, label, {key: wishes[key] for key in wishes if key != name}))

    def undo(self):
        if len(self.states) == 1:
            return False
        self.states.pop()
        return True


def pictures(table, label):
    rows = trees.graph(table, label, most=4000)
    return None if rows is None else {row[0] for row in rows}


def simplest_of(table, label, wish):
    """The SIMPLEST SLOPE whose SHOT a WISH does not MEET, None if there is none; by the rows, one by one."""
    rows = trees.graph(table, label)
    bad = [not trees.meets(wish, trees.outcome(row[0])) for row in rows]
    if not any(bad):
        return None
    most = 8
    while True:
        for slope, at in trees.slopes_with_rows(rows, most):
            if bad[at]:
                return slope
        most *= 2


def random_change(rng, kept, model, tables):
    """Do one CHANGE to both, and return what both told."""
    what = rng.randrange(6)
    table = model.states[-1][0]
    if what == 0:
        other = rng.choice(tables)
        return kept.put_table(other), model.put_table(other)
    if what == 1:
        label = rng.choice(plain.all_labels(table))
        return kept.put_spot(label), model.put_spot(label)
    name = rng.choice(("a", "far", "never", "abcdefghijkl"))
    if what == 2:
        return kept.take_wish(name), model.take_wish(name)
    if what in (3, 4):
        wish = rng.choice((NEVER, FAR, ROUND, (("",), (0, 1), 1, 4, True)))
        return kept.put_wish(name, wish), model.put_wish(name, wish)
    if model.undo():
        return kept.undo(), None
    with_nothing(kept)
    return None, None


def with_nothing(kept):
    try:
        kept.undo()
    except Nothing:
        return
    raise AssertionError


class TestMade(unittest.TestCase):
    def test_at_first(self):
        kept = Kept(ELL, (2, 0, 1, 0))
        self.assertEqual([kept.table(), kept.spot(), kept.wishes(), kept.kept(), kept.broken(), kept.stayed()],
                         [ELL, (2, 0, 1, 0), {}, {}, {}, 0])
        with self.assertRaises(Nothing):
            kept.undo()

    def test_wrong(self):
        for thing in odd_values():
            if judges.fault(thing) is not None:
                with self.assertRaises(Wrong) as caught:
                    Kept(thing, SPOT)
                self.assertEqual(caught.exception.place, 0)
            if not judges.label(BOX, thing):
                with self.assertRaises(Wrong) as caught:
                    Kept(BOX, thing)
                self.assertEqual(caught.exception.place, 1)
        for args, place in (((None, None), 0), ((list(BOX), SPOT), 0), ((BOX, (1, 0, 0, 0)), 1),
                            ((BOX, (0, 0, 0, 1)), 1), ((DIAL, (0, 0, 0, True)), 1), ((BOX, list(SPOT)), 1)):
            with self.assertRaises(Wrong) as caught:
                Kept(*args)
            self.assertEqual(caught.exception.place, place)


class TestChanges(unittest.TestCase):
    def test_each_kind(self):
        kept = Kept(BOX, (0, 1, 1, 0))
        self.assertEqual([kept.put_table(BOX), kept.put_spot((0, 1, 1, 0)), kept.take_wish("a")], [False] * 3)
        with self.assertRaises(Nothing):
            kept.undo()
        self.assertEqual([kept.put_wish("a", FAR), kept.put_wish("a", FAR), kept.put_wish("a", NEVER)],
                         [True, False, True])
        self.assertEqual([kept.put_spot(SPOT), kept.put_spot(SPOT), kept.put_table(DIAL), kept.put_table(DIAL)],
                         [True, False, True, False])
        self.assertEqual([kept.take_wish("a"), kept.take_wish("a")], [True, False])
        for state in ((DIAL, SPOT, {"a": NEVER}), (BOX, SPOT, {"a": NEVER}), (BOX, (0, 1, 1, 0), {"a": NEVER}),
                      (BOX, (0, 1, 1, 0), {"a": FAR}), (BOX, (0, 1, 1, 0), {})):
            self.assertIsNone(kept.undo())
            self.assertEqual((kept.table(), kept.spot(), kept.wishes()), state)
        for _ in range(2):
            with self.assertRaises(Nothing):
                kept.undo()

    def test_the_spot_stays_if_it_is_a_label(self):
        kept = Kept(PAIR, (1, 0, 1, 1))
        kept.put_table((2, 2, (None, None), (None, None), (), ()))
        self.assertEqual(kept.spot(), (1, 0, 1, 1))
        kept.put_table(BENT)
        self.assertEqual(kept.spot(), SPOT)
        kept.put_spot((2, 0, 1, 0))
        kept.put_table(BOX)
        self.assertEqual(kept.spot(), SPOT)
        kept.undo()
        self.assertEqual([kept.table(), kept.spot()], [BENT, (2, 0, 1, 0)])
        # A LABEL of another TABLE is refused, even if it was one before.
        kept.put_table(BOX)
        with self.assertRaises(Wrong):
            kept.put_spot((2, 0, 1, 0))

    def test_beside_a_model(self):
        rng = random.Random(1)
        tables = [BOX, DIAL, ELL, PAIR, TORUS, STRIP, BENT] + plain.tables(6, seed=241)[-6:]
        changes = 0
        for _ in range(30):
            table = rng.choice(tables)
            label = rng.choice(plain.all_labels(table))
            kept, model = Kept(table, label), Model(table, label)
            for _ in range(25):
                told, expected = random_change(rng, kept, model, tables)
                self.assertIs(told, expected)
                changes += told is True
                self.assertEqual((kept.table(), kept.spot(), kept.wishes()), model.states[-1])
                self.assertEqual(list(kept.wishes()), sorted(kept.wishes()))
            while model.undo():
                kept.undo()
                self.assertEqual((kept.table(), kept.spot(), kept.wishes()), model.states[-1])
            with_nothing(kept)
        self.assertTrue(changes > 200)

    def test_new_dicts(self):
        kept = Kept(BOX, SPOT)
        kept.put_wish("a", FAR)
        for call in (kept.wishes, kept.kept, kept.broken):
            call().clear()
            self.assertEqual(list(call()), ["a"])
        kept.undo()
        self.assertEqual(kept.wishes(), {})

    def test_wrong(self):
        kept = Kept(BOX, SPOT)
        kept.put_wish("a", FAR)
        twin = kept.twin()
        for thing in odd_values():
            for call, place, good in ((lambda: kept.put_table(thing), 0, judges.fault(thing) is None),
                                      (lambda: kept.put_spot(thing), 0, judges.label(BOX, thing)),
                                      (lambda: kept.put_wish(thing, FAR), 0, judges.name(thing)),
                                      (lambda: kept.put_wish("b", thing), 1, judges.wish(thing)),
                                      (lambda: kept.take_wish(thing), 0, judges.name(thing)),
                                      (lambda: kept.outcome(thing), 0, judged_slope(thing))):
                if not good:
                    with self.assertRaises(Wrong) as caught:
                        call()
                    self.assertEqual(caught.exception.place, place)
        self.assertEqual(kept, twin)
        for call, place in ((lambda: kept.put_wish("", None), 0), (lambda: kept.put_wish("A", FAR), 0),
                            (lambda: kept.put_wish("a", FAR[:4]), 1), (lambda: kept.put_wish("a", list(FAR)), 1),
                            (lambda: kept.put_wish("a", (("d",), (0,), True, 1, False)), 1),
                            (lambda: kept.take_wish(""), 0), (lambda: kept.outcome((4001, 1)), 0),
                            (lambda: kept.outcome((2, 2)), 0), (lambda: kept.put_spot((0, 0, 0, False)), 0)):
            with self.assertRaises(Wrong) as caught:
                call()
            self.assertEqual(caught.exception.place, place)
        kept.undo()
        with_nothing(kept)

    def test_wishes_with_great_numbers(self):
        kept = Kept(BOX, SPOT)
        great = (("d",), (0, 10 ** 39), 1, 10 ** 39, True)
        self.assertIs(kept.put_wish("a", great), True)
        self.assertEqual([kept.wishes(), kept.kept(), kept.broken()], [{"a": great}, {"a": False}, {"a": (1, 2)}])


class TestTold(unittest.TestCase):
    def test_outcome(self):
        rng = random.Random(2)
        for table in plain.tables(15, seed=242, most=5):
            label = rng.choice(plain.all_labels(table))
            kept = Kept(table, label)
            for slope in plain.slopes(6) + [(99, 100)]:
                self.assertEqual(kept.outcome(slope), plain.ball(table, label, slope)[0])
        self.assertEqual(Kept(BOX, SPOT).outcome((4000, 3999)), ("falls", "b", 0, 1))

    def test_rows_many_and_stayed(self):
        kept = Kept(BOX, SPOT)
        self.assertEqual([kept.rows_many(), kept.stayed()], [6, 0])
        kept.put_table(DIAL)
        self.assertEqual([kept.rows_many(), kept.stayed()], [24, 0])
        kept.put_table(DIAL)
        self.assertEqual(kept.stayed(), 0)
        kept.undo()
        self.assertEqual([kept.rows_many(), kept.stayed()], [6, 0])
        # A WISH changes no PICTURE, so all stay.
        kept.put_wish("a", FAR)
        self.assertEqual(kept.stayed(), 6)
        kept.put_spot((0, 1, 1, 0))
        self.assertEqual(kept.stayed(), 0)
        kept.undo()
        self.assertEqual(kept.stayed(), 6)

    def test_stayed_in_part(self):
        # A SPOT in the mirrored place of a bare box has the same PICTURES, and so have others.
        rng = random.Random(3)
        some = 0
        for table in plain.tables(30, seed=243, most=4, marks=2):
            one, other = rng.choice(plain.all_labels(table)), rng.choice(plain.all_labels(table))
            if pictures(table, one) is None or pictures(table, other) is None:
                continue
            kept = Kept(table, one)
            if kept.put_spot(other):
                both = pictures(table, one) & pictures(table, other)
                self.assertEqual(kept.stayed(), len(both))
                some += bool(both)
        self.assertTrue(some > 5)

    def test_kept_and_broken(self):
        kept = Kept(BOX, SPOT)
        kept.put_wish("never", NEVER)
        kept.put_wish("far", FAR)
        self.assertEqual([kept.kept(), kept.broken()], [{"far": False, "never": True}, {"far": (1, 2)}])
        self.assertEqual(list(kept.kept()), ["far", "never"])
        kept.put_table(PAIR)
        kept.put_wish("round", ROUND)
        self.assertEqual([kept.kept(), kept.broken()], [{"far": False, "never": False, "round": True},
                                                        {"far": (1, 1), "never": (1, 1)}])

    def test_against_all_rows(self):
        rng = random.Random(4)
        broken = 0
        for table in plain.tables(25, seed=244, most=4, marks=2):
            label = rng.choice(plain.all_labels(table))
            if trees.graph(table, label, most=400) is None:
                continue
            kept = Kept(table, label)
            wishes = {"a": ROUND, "b": FAR, "c": (("", "a", "b"), (0, 1), 1, 3, True), "d": (("",), (0,), 1, 99, True)}
            for name in rng.sample(sorted(wishes), 4):
                kept.put_wish(name, wishes[name])
            slopes = {name: simplest_of(table, label, wish) for name, wish in wishes.items()}
            self.assertEqual(kept.kept(), {name: slope is None for name, slope in slopes.items()})
            told = {name: slope for name, slope in slopes.items() if slope is not None}
            self.assertEqual(list(kept.broken().items()), sorted(told.items()))
            broken += len(told)
        self.assertTrue(broken > 30)

    def test_too_many(self):
        kept = Kept(trees.BEYOND, SPOT)
        # Without WISHES, and without a CHANGE, no GRAPH is asked for.
        self.assertEqual([kept.kept(), kept.broken(), kept.stayed()], [{}, {}, 0])
        with self.assertRaises(TooMany) as caught:
            kept.rows_many()
        self.assertEqual(caught.exception.most, 4000)
        kept.put_wish("a", FAR)
        for call in (kept.kept, kept.broken, kept.stayed, kept.rows_many):
            with self.assertRaises(TooMany) as caught:
                call()
            self.assertEqual(caught.exception.most, 4000)
        self.assertEqual(kept.outcome((1, 1)), plain.ball(trees.BEYOND, SPOT, (1, 1))[0])
        # What was there ahead is too great, what is there now is not.
        kept.put_table(BOX)
        self.assertEqual([kept.rows_many(), kept.kept()], [6, {"a": False}])
        with self.assertRaises(TooMany):
            kept.stayed()
        kept.put_spot((0, 0, 1, 0))
        self.assertEqual(kept.stayed(), 0)
        kept.take_wish("a")
        self.assertEqual(kept.stayed(), 6)


class TestTwins(unittest.TestCase):
    def test_they_go_on_apart(self):
        kept = Kept(BOX, SPOT)
        kept.put_wish("a", FAR)
        kept.put_table(DIAL)
        twin = kept.twin()
        self.assertIsInstance(twin, Kept)
        self.assertEqual(twin, kept)
        self.assertEqual(twin.stayed(), kept.stayed())
        twin.put_wish("b", NEVER)
        kept.take_wish("a")
        self.assertEqual([kept.wishes(), twin.wishes()], [{}, {"a": FAR, "b": NEVER}])
        for one in (kept, twin):
            for state in ((DIAL, {"a": FAR}), (BOX, {"a": FAR}), (BOX, {})):
                one.undo()
                self.assertEqual((one.table(), one.wishes()), state)
            with_nothing(one)

    def test_equal_and_unequal(self):
        one, other = Kept(BOX, SPOT), Kept(DIAL, SPOT)
        self.assertIs(one == other, False)
        self.assertIs(one != other, True)
        other.put_table(BOX)
        # How one came there is no matter.
        self.assertIs(one == other, True)
        self.assertIs(one != other, False)
        one.put_spot((0, 1, 0, 0))
        self.assertFalse(one == other)
        other.put_spot((0, 1, 0, 0))
        one.put_wish("a", FAR)
        one.put_wish("b", NEVER)
        self.assertFalse(one == other)
        other.put_wish("b", NEVER)
        other.put_wish("a", FAR)
        self.assertTrue(one == other)
        other.put_wish("a", NEVER)
        self.assertFalse(one == other)

    def test_beside_another_value(self):
        kept = Kept((1, 1, (None,), (None,), (), ()), SPOT)
        for thing in plain.odd_values() + [Desk(), Game(BOX, ((0, 0, 0),), {}), Kept, (kept.table(), SPOT, {})]:
            self.assertIs(kept == thing, False)
            self.assertIs(kept != thing, True)
            self.assertIs(thing == kept, False)


if __name__ == "__main__":
    unittest.main()
