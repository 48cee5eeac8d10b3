"""[40]: the desk."""

import random
import unittest

from hownarrow.desk import Desk
from hownarrow.errors import NoCommand, Wrong
from hownarrow.games import Game
from hownarrow.kept import Kept
from hownarrow.narrow import simplest_shot
from hownarrow.settled import outcomes_of
from hownarrow.tabletexts import show_table
from tests import judges, plain, trees
from tests.plain import BOX, DIAL, ELL, PAIR, STRIP, TORUS
from tests.test_games import odd_values

SPOT = (0, 0, 0, 0)
START = (1, 1, (None,), (None,), (), ())
TABLE = "table\n"


def shown(outcome):
    if outcome[0] == "round":
        return f"round {outcome[1]}"
    return f"falls {outcome[1] or '-'} {outcome[2]} {outcome[3]}"


def desk_with(table, label=SPOT):
    desk = Desk()
    assert desk.execute(TABLE + show_table(table)) == ["done"]
    assert desk.execute("spot " + " ".join(map(str, label))) == ["done"]
    return desk


def wish_line(name, wish):
    names, marks, least, most, rounds = wish
    told = ",".join([one or "-" for one in names]) or "."
    return f"wish {name} {told} {','.join(map(str, marks)) or '.'} {least} {most} {'yes' if rounds else 'no'}"


class TestAtFirst(unittest.TestCase):
    def test_what_it_keeps(self):
        desk = Desk()
        self.assertEqual([desk.table(), desk.spot(), desk.wishes()], [START, SPOT, {}])
        self.assertEqual([desk.execute(line) for line in ("where", "show", "rows", "wishes", "undo", "nowish a")],
                         [["0 0 0 0"], ["cells 1", "marks 1"], ["1"], [], ["nothing"], ["nothing"]])
        self.assertEqual([desk.execute("shoot 3 2"), desk.execute("outcomes")], [["round 2"], ["round 2 by 1 1"]])


class TestCommands(unittest.TestCase):
    def refused(self, desk, lines):
        """All lines are no COMMAND, and nothing is changed by them."""
        twin = desk.twin()
        for line in lines:
            with self.assertRaises(NoCommand) as caught:
                desk.execute(line)
            self.assertIs(caught.exception.line, line)
        self.assertEqual(desk, twin)
        self.assertEqual((desk.table(), desk.spot(), desk.wishes()), (twin.table(), twin.spot(), twin.wishes()))

    def test_no_command_at_all(self):
        self.refused(Desk(), ["", " ", "\n", "x", "Show", "show ", " show", "show\n", "show show", "where 0", "where ",
                              "rows 1", " rows", "outcomes x", "outcomes ", "wishes a", "undo 1", "undo ", "table",
                              "table ", "table x", "tables", "twin", "kept", "spot", "shoot", "wish", "nowish",
                              "narrow", "~" * 3000, "l", "undo undo", "undo\nundo", "\nshow", "table\tx", "a" * 3000])

    def test_table(self):
        desk = Desk()
        self.assertEqual(desk.execute("table\ncells 1\nmarks 1\npocket 0 0 1 left\npocket 0 1 1 far"), ["done"])
        self.assertEqual(desk.table(), START[:5] + ((((0, 0, 1), "left"), ((0, 1, 1), "far")),))
        self.assertEqual([desk.execute("shoot 2 1"), desk.execute("shoot 1 2")], [["falls left 0 1"], ["round 2"]])
        # Blanks more, and lines without words, may stand in the text [14].
        self.assertEqual(desk.execute("table\n\n cells  2 \nmarks 3\n\nright 0 1\n"), ["done"])
        self.assertEqual(desk.table(), (2, 3, (1, None), (None, None), (), ()))
        self.refused(desk, ["table\n", "table \ncells 1\nmarks 1", "table\ncells 1", "table\nmarks 1\ncells 1",
                            "table\ncells 0\nmarks 1", "table\ncells 01\nmarks 1", "table\ncells 1\nmarks 1\nx",
                            "table\ncells 1\nmarks 1\nright 0 1", "table cells 1\nmarks 1", "Table\ncells 1\nmarks 1",
                            "table\ncells 1\nmarks 1\npocket 0 0 0 A", "table\ncells 1001\nmarks 1"])

    def test_the_spot_goes_with_the_table(self):
        desk = desk_with(PAIR, (1, 0, 1, 1))
        desk.execute(TABLE + show_table(PAIR[:4] + ((), ())))
        self.assertEqual(desk.execute("where"), ["1 0 1 1"])
        desk.execute(TABLE + show_table(BOX))
        self.assertEqual(desk.execute("where"), ["0 0 0 0"])

    def test_spot(self):
        desk = desk_with(PAIR)
        self.assertEqual([desk.execute("spot 1 0 1 1"), desk.execute("where"), desk.spot()],
                         [["done"], ["1 0 1 1"], (1, 0, 1, 1)])
        self.refused(desk, ["spot 2 0 0 0", "spot 0 2 0 0", "spot 0 0 2 0", "spot 0 0 0 2", "spot 0 0 0", "spot 0 0 0 0 0",
                            "spot 0  0 0 0", "spot 0 0 0 0 ", "spot 00 0 0 0", "spot 0 0 0 -1", "spot 0 0 0 +1",
                            "spot 0 0 0 01", "spot 0 0 0 x", "spot 0,0,0,0", "spot 0 0 0 0000000001",
                            "spot 0 0 0 1000000000", "spot (0, 0, 0, 0)", "spot 0 0 0 1.0", "spot\n0 0 0 0"])

    def test_wish(self):
        desk = desk_with(BOX)
        for line, name, wish in (("wish in far,left 0 1 1 no", "in", (("far", "left"), (0,), 1, 1, False)),
                                 ("wish a - . 1 2 yes", "a", (("",), (), 1, 2, True)),
                                 ("wish b . 0,1,12 3 3 no", "b", ((), (0, 1, 12), 3, 3, False)),
                                 ("wish abcdefghijkl -,a,zz . 1 999999999 yes", "abcdefghijkl",
                                  (("", "a", "zz"), (), 1, 999999999, True)),
                                 ("wish a a 5 2 7 no", "a", (("a",), (5,), 2, 7, False))):
            self.assertEqual(desk.execute(line), ["done"])
            self.assertEqual(desk.wishes()[name], wish)
        self.assertEqual(list(desk.wishes()), ["a", "abcdefghijkl", "b", "in"])
        self.refused(desk, [
            "wish a b 0 1 1", "wish a b 0 1 1 no no", "wish A b 0 1 1 no", "wish - b 0 1 1 no", "wish  b 0 1 1 no",
            "wish abcdefghijklm b 0 1 1 no", "wish a c,b 0 1 1 no", "wish a b,b 0 1 1 no", "wish a b,- 0 1 1 no",
            "wish a b,,c 0 1 1 no", "wish a ,b 0 1 1 no", "wish a b, 0 1 1 no", "wish a B 0 1 1 no", "wish a .,b 0 1 1 no",
            "wish a -,- 0 1 1 no", "wish a b 1,0 1 1 no", "wish a b 0,0 1 1 no", "wish a b 0,,1 1 1 no",
            "wish a b 0, 1 1 no", "wish a b ,0 1 1 no", "wish a b 00 1 1 no", "wish a b -1 1 1 no", "wish a b - 1 1 no",
            "wish a b x 1 1 no", "wish a b 0 0 1 no", "wish a b 0 2 1 no", "wish a b 0 01 1 no", "wish a b 0 1 01 no",
            "wish a b 0 1 1000000000 no", "wish a b 1000000000 1 1 no", "wish a b 0 -1 1 no", "wish a b 0 1 1 No",
            "wish a b 0 1 1 True", "wish a b 0 1 1 1", "wish a b 0 1 1 ", "wish a  0 1 1 no", "wish a b  1 1 no",
            "wish a b 0  1 no", "wish a b 0 1 1 no ", "wish a b, c 0 1 1 no", "wish a b 0 1 x no", "wish a --,b 0 1 1 no",
            "wish a abcdefghijklm 0 1 1 no", "wish a b +0 1 1 no"])

    def test_nowish(self):
        desk = desk_with(BOX)
        desk.execute("wish a . . 1 1 no")
        self.assertEqual([desk.execute("nowish b"), desk.execute("nowish a"), desk.execute("nowish a"), desk.wishes()],
                         [["nothing"], ["done"], ["nothing"], {}])
        self.refused(desk, ["nowish", "nowish ", "nowish A", "nowish a b", "nowish -", "nowish abcdefghijklm",
                            "nowish  a", "nowish a ", "nowish 1"])

    def test_shoot(self):
        desk = desk_with(ELL)
        for slope in plain.slopes(8) + [(4000, 3999), (1, 4000)]:
            told = shown(plain.ball(ELL, SPOT, slope)[0]) if sum(slope) < 99 else shown(Kept(ELL, SPOT).outcome(slope))
            self.assertEqual(desk.execute(f"shoot {slope[0]} {slope[1]}"), [told])
        self.assertEqual(desk.execute("shoot 1 1"), ["falls - 0 1"])
        self.refused(desk, ["shoot 1", "shoot 1 1 1", "shoot 2 2", "shoot 0 1", "shoot 1 0", "shoot 4001 1",
                            "shoot 1 4001", "shoot 01 1", "shoot -1 1", "shoot +1 1", "shoot 1  1", "shoot 1 1 ",
                            "shoot 1/1", "shoot a b", "shoot 1 1000000001", "shoot 1\n1"])

    def test_rows_and_outcomes(self):
        for table in (BOX, DIAL, ELL, PAIR, TORUS, STRIP):
            desk = desk_with(table)
            self.assertEqual(desk.execute("rows"), [str(len(trees.graph(table, SPOT)))])
            self.assertEqual(desk.execute("outcomes"), [
                f"{shown(outcome)} by {slope[0]} {slope[1]}" for outcome, slope in outcomes_of(table, SPOT).items()])
        self.assertEqual(desk_with(ELL).execute("outcomes"),
                         ["falls - 0 1 by 1 1", "falls a 0 2 by 1 2", "falls b 0 2 by 1 4", "falls c 0 2 by 3 2"])

    def test_wishes(self):
        desk = desk_with(BOX)
        for line in ("wish never b,c,d 0 1 1 no", "wish far d 0 1 1 no", "wish any . . 1 9 yes"):
            desk.execute(line)
        self.assertEqual(desk.execute("wishes"), ["any broken by 1 1", "far broken by 1 2", "never kept"])

    def test_narrow(self):
        desk = desk_with(BOX)
        desk.execute("wish in b,d 0 1 1 no")
        desk.execute("wish none . . 1 9 yes")
        self.assertEqual([desk.execute(line) for line in (
            "narrow in 3 1 2 1", "narrow in 1 0 0 1", "narrow in 4000 3999 1 1", "narrow none 3 1 2 1")],
                         [["7 3"], ["1 1"], [" ".join(map(str, simplest_shot(
                             BOX, SPOT, (("b", "d"), (0,), 1, 1, False), ((4000, 3999), (1, 1)))))], ["none"]])
        self.refused(desk, ["narrow", "narrow in", "narrow in 3 1 2", "narrow in 3 1 2 1 1", "narrow other 3 1 2 1",
                            "narrow in 2 1 3 1", "narrow in 1 1 1 1", "narrow in 0 1 1 0", "narrow in 2 2 1 2",
                            "narrow in 4001 1 1 1", "narrow in 1 0 1 4001", "narrow in 03 1 2 1", "narrow in 3 1 2 -1",
                            "narrow in 0 0 1 1", "narrow in 1 0 0 0", "narrow  3 1 2 1", "narrow 3 1 2 1",
                            "narrow in 3  1 2 1", "narrow in 3 1 2 1 ", "narrow IN 3 1 2 1", "narrow in 3 1 2 x",
                            "narrow in 1000000000 1 1 1"])

    def test_undo(self):
        desk = Desk()
        desk.execute("wish a . . 1 1 no")
        desk.execute(TABLE + show_table(BOX))
        desk.execute("spot 0 1 1 0")
        # These change nothing, so they cannot be taken back.
        for line in ("spot 0 1 1 0", TABLE + show_table(BOX), "wish a . . 1 1 no"):
            self.assertEqual(desk.execute(line), ["done"])
        self.assertEqual(desk.execute("nowish b"), ["nothing"])
        for state in ((BOX, SPOT, 1), (START, SPOT, 1), (START, SPOT, 0)):
            self.assertEqual(desk.execute("undo"), ["done"])
            self.assertEqual((desk.table(), desk.spot(), len(desk.wishes())), state)
        self.assertEqual([desk.execute("undo"), desk.execute("undo")], [["nothing"], ["nothing"]])

    def test_show_and_where(self):
        for table in plain.tables(20, seed=251):
            desk = Desk()
            desk.execute(TABLE + show_table(table))
            self.assertEqual(desk.table(), table)
            self.assertEqual(desk.execute("show"), show_table(table).split("\n"))
            self.assertEqual(desk.execute("where"), ["0 0 0 0"])

    def test_too_many(self):
        for table in (trees.BEYOND, trees.FAR_BEYOND):
            desk = desk_with(table)
            self.assertEqual([desk.execute(line) for line in ("wishes", "rows", "outcomes")],
                             [[], ["too many"], ["too many"]])
            self.assertEqual(desk.execute("wish a . . 1 1 yes"), ["done"])
            self.assertEqual([desk.execute(line) for line in ("wishes", "narrow a 1 0 0 1")], [["too many"]] * 2)
            self.assertEqual(desk.execute("shoot 1 1"), [shown(plain.ball(table, SPOT, (1, 1))[0])])
            self.refused(desk, ["narrow b 1 0 0 1", "narrow a 0 1 1 0", "rows 1"])

    def test_wrong(self):
        desk = Desk()
        for thing in odd_values() + [b"show", ["show"], ("show",)]:
            if type(thing) is not str:
                with self.assertRaises(Wrong) as caught:
                    desk.execute(thing)
                self.assertEqual(caught.exception.place, 0)
        self.assertEqual(desk, Desk())

    def test_new_lists(self):
        desk = desk_with(BOX)
        desk.execute("wish a . . 1 1 no")
        for line in ("show", "where", "rows", "outcomes", "wishes", "shoot 1 1"):
            told = desk.execute(line)
            told.append("more")
            self.assertEqual(desk.execute(line), told[:-1])
        desk.wishes().clear()
        self.assertEqual(list(desk.wishes()), ["a"])


class TestBesideAKept(unittest.TestCase):
    def test_the_same_changes(self):
        rng = random.Random(1)
        tables = [BOX, DIAL, ELL, PAIR, STRIP, TORUS, trees.BEYOND] + plain.tables(4, seed=252)[-4:]
        done = 0
        for _ in range(20):
            desk, kept = Desk(), Kept(START, SPOT)
            for _ in range(30):
                what = rng.randrange(7)
                name = rng.choice(("a", "b", "home"))
                if what == 0:
                    table = rng.choice(tables)
                    kept.put_table(table)
                    told, line = "done", TABLE + show_table(table)
                elif what == 1:
                    label = rng.choice(plain.all_labels(kept.table()))
                    kept.put_spot(label)
                    told, line = "done", "spot " + " ".join(map(str, label))
                elif what in (2, 3):
                    wish = rng.choice(((("", "a"), (0, 1), 1, 9, True), ((), (), 2, 2, True), (("b",), (0,), 1, 1, False)))
                    kept.put_wish(name, wish)
                    told, line = "done", wish_line(name, wish)
                elif what == 4:
                    told, line = "done" if kept.take_wish(name) else "nothing", f"nowish {name}"
                else:
                    told, line = "nothing", "undo"
                    try:
                        kept.undo()
                        told = "done"
                    except ValueError:
                        pass
                self.assertEqual(desk.execute(line), [told])
                done += told == "done"
                self.assertEqual((desk.table(), desk.spot(), desk.wishes()), (kept.table(), kept.spot(), kept.wishes()))
            try:
                broken = kept.broken()
                lines = [f"{name} broken by {broken[name][0]} {broken[name][1]}" if name in broken else f"{name} kept"
                         for name in kept.wishes()]
            except ValueError:
                lines = ["too many"]
            self.assertEqual(desk.execute("wishes"), lines)
            self.assertEqual(desk.execute("shoot 5 3"), [shown(kept.outcome((5, 3)))])
        self.assertTrue(done > 300)

    def test_any_words(self):
        # Words of all sorts put together: what is answered is always a list of strings, else it is no COMMAND.
        rng = random.Random(2)
        words = ["spot", "wish", "nowish", "undo", "show", "where", "shoot", "rows", "outcomes", "wishes", "narrow", "a",
                 "in", "0", "1", "2", "3", "-", ".", "yes", "no", "0,1", "-,a", "", "table", "x"]
        desk = desk_with(DIAL)
        answered = 0
        for _ in range(6000):
            line = " ".join([rng.choice(words[:11])] + [rng.choice(words) for _ in range(rng.randint(0, 6))])
            before = desk.twin()
            try:
                told = desk.execute(line)
                self.assertIsInstance(told, list)
                self.assertTrue(all(type(one) is str for one in told))
                answered += 1
            except NoCommand as error:
                self.assertEqual(error.line, line)
                self.assertEqual(desk, before)
        self.assertTrue(answered > 100)


class TestTwins(unittest.TestCase):
    def test_they_go_on_apart(self):
        desk = desk_with(BOX, (0, 1, 0, 0))
        twin = desk.twin()
        self.assertIsInstance(twin, Desk)
        self.assertEqual(twin, desk)
        twin.execute("wish a . . 1 1 no")
        self.assertEqual([desk.wishes(), len(twin.wishes())], [{}, 1])
        self.assertNotEqual(twin, desk)
        desk.execute("undo")
        self.assertEqual([desk.spot(), twin.spot()], [SPOT, (0, 1, 0, 0)])
        # What can be taken back is in both.
        self.assertEqual([twin.execute("undo") for _ in range(4)], [["done"]] * 3 + [["nothing"]])
        self.assertEqual([desk.execute("undo") for _ in range(2)], [["done"], ["nothing"]])
        self.assertEqual(desk, twin)

    def test_equal_and_unequal(self):
        one, other = desk_with(BOX), Desk()
        self.assertIs(one == other, False)
        self.assertIs(one != other, True)
        one.execute("undo")
        self.assertIs(one == other, True)
        self.assertIs(one != other, False)
        one.execute("wish a . . 1 1 no")
        self.assertFalse(one == other)

    def test_beside_another_value(self):
        desk = Desk()
        for thing in plain.odd_values() + [Kept(START, SPOT), Game(BOX, ((0, 0, 0),), {}), Desk]:
            self.assertIs(desk == thing, False)
            self.assertIs(desk != thing, True)
            self.assertIs(thing == desk, False)


if __name__ == "__main__":
    unittest.main()
