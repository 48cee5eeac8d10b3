"""[15]: TABLES that lie in the plane, and their drawings."""

import random
import unittest

from hownarrow.drawings import drawn, lies_at, read_drawing
from hownarrow.errors import NoText, Wrong
from hownarrow.forms import is_table
from tests import flat, judges, plain
from tests.plain import BENT, BOX, ENDING, SQUARE, STRIP, TORUS

GREAT = 10 ** 39
SQUARE_PLACES = ((0, 0), (1, 0), (0, 1), (1, 1))
BENT_PLACES = ((0, 0), (1, 0), (0, 1))
BENT_TEXT = "+-+\n|.|\n+ +-+\n|. .|\n+-+-a"
BENT_READ = ((3, 1, (2, None, None), (1, None, None), (), (((2, 1, 0), "a"),)), ((0, 0), (0, 1), (1, 0)))


def flats(many, seed=1, most=8, wide=4):
    rng = random.Random(seed)
    return [flat.random_flat(rng, most, wide) for _ in range(many)]


def lies(table, thing):
    """Whether it LIES there, asked joint by joint and point by point."""
    if not judges.parts(thing, table[0]) or not all(judges.parts(place, 2) for place in thing):
        return False
    if not all(type(at) is int for place in thing for at in place) or len(set(thing)) < table[0] or table[1] != 1:
        return False
    for row, x, y in ((table[2], 1, 0), (table[3], 0, 1)):
        for cell, other in enumerate(row):
            if other is not None and thing[other] != (thing[cell][0] + x, thing[cell][1] + y):
                return False
    names = {}
    for point in plain.points(table):
        name = dict(table[5]).get(point[0])
        cell, x, y = point[0]
        names.setdefault((thing[cell][0] + x, thing[cell][1] + y), set()).add(name)
    return all(len(found) == 1 for found in names.values()) and all(len(name) == 1 for _, name in table[5])


class TestLies(unittest.TestCase):
    def test_where_it_lies(self):
        for table, places in flats(200):
            self.assertIs(lies_at(table, places), True)
            moved = tuple([(x + GREAT, y - GREAT) for x, y in places])
            self.assertIs(lies_at(table, moved), True)

    def test_joints_lead_beside(self):
        self.assertIs(lies_at(BENT, BENT_PLACES), True)
        for places in (((0, 0), (1, 0), (1, 1)), ((0, 0), (0, 1), (1, 0)), ((0, 0), (2, 0), (0, 1)),
                       ((0, 0), (-1, 0), (0, 1)), ((0, 0), (1, 1), (0, 1)), ((0, 0), (1, 0), (0, -1)),
                       ((0, 0), (1, 0), (0, 2))):
            self.assertIs(lies_at(BENT, places), False, places)
        self.assertIs(lies_at(STRIP, ((0, 0),)), False)
        self.assertIs(lies_at(TORUS, ((0, 0),)), False)
        self.assertIs(lies_at((1, 1, (None,), (0,), (), ()), ((0, 0),)), False)

    def test_cells_that_are_not_joined_lie_anywhere(self):
        apart = (2, 1, (None, None), (None, None), (), ())
        for places in (((0, 0), (1, 0)), ((0, 0), (0, 1)), ((5, -3), (-GREAT, 7)), ((1, 1), (0, 0))):
            self.assertIs(lies_at(apart, places), True, places)
        self.assertIs(lies_at(apart, ((2, 1), (2, 1))), False)

    def test_marks_and_names(self):
        self.assertIs(lies_at((1, 2, (None,), (None,), (), ()), ((0, 0),)), False)
        self.assertIs(lies_at((1, 1, (None,), (None,), (), (((0, 0, 0), "ab"),)), ((0, 0),)), False)
        self.assertIs(lies_at((1, 1, (None,), (None,), (), (((0, 0, 0), "b"),)), ((0, 0),)), True)
        self.assertIs(lies_at(BOX, ((0, 0),)), True)

    def test_unlike_pockets_at_one_whole_point(self):
        for one in (None, "a", "b"):
            for other in (None, "a", "b"):
                pockets = [((0, 1, 0), one)] * (one is not None) + [((1, 0, 0), other)] * (other is not None)
                table = (2, 1, (None, None), (None, None), (), tuple(pockets))
                self.assertIs(lies_at(table, ((0, 0), (1, 0))), one == other)
                self.assertIs(lies_at(table, ((0, 0), (7, 0))), True)
        # A wall that ends: the CORNERS beside it are one round its end, but not at its foot.
        foot = ENDING[:5] + ((((2, 1, 1), "c"), ((3, 0, 1), "c")),)
        self.assertIs(lies_at(ENDING, SQUARE_PLACES), True)
        self.assertIs(lies_at(foot, SQUARE_PLACES), True)
        self.assertIs(lies_at(ENDING[:5] + ((((2, 1, 1), "c"),),), SQUARE_PLACES), False)

    def test_values_of_any_kind(self):
        rng = random.Random(3)
        for table, places in flats(80, seed=4) + [(BENT, BENT_PLACES), (BOX, ((0, 0),)), (SQUARE, SQUARE_PLACES)]:
            for thing in plain.odd_values() + [Wrong(1), (Wrong(1),), ((0, Wrong(1)),)]:
                self.assertIs(lies_at(table, thing), lies(table, thing))
            for _ in range(40):
                thing = judges.otherwise(rng, places)
                self.assertIs(lies_at(table, thing), lies(table, thing), (table, thing))
        for thing in ([(0, 0)], ([0, 0],), ((True, 0),), ((0, False),), ((0,),), ((0, 0, 0),), ((0, None),),
                      ((0, 0),) * 2):
            self.assertIs(lies_at(BOX, thing), False, thing)

    def test_other_tables_at_these_places(self):
        rng = random.Random(13)
        for table, places in flats(150, seed=12):
            size = table[0]
            rows = [plain.random_row(rng, size), table[2], table[3]]
            other = (size, 1, rng.choice(rows), rng.choice(rows), (), ())
            if rng.random() < 0.5:
                pockets = [(point[0], rng.choice("ab")) for point in plain.points(other) if rng.random() < 0.3]
                other = other[:5] + (tuple(pockets),)
            self.assertIs(lies_at(other, places), lies(other, places))


class TestDrawn(unittest.TestCase):
    def test_some(self):
        self.assertEqual(drawn(BOX, ((3, -8),)), "b-d\n|.|\na-c")
        self.assertEqual(drawn(SQUARE, SQUARE_PLACES), "+-+-+\n|. .|\n+ + +\n|. .|\n+-+-+")
        self.assertEqual(drawn(ENDING, SQUARE_PLACES), "+-+-+\n|.|.|\n+ + +\n|. .|\n+-+-+")
        pocketed = BENT[:5] + ((((1, 1, 0), "a"),),)
        self.assertEqual(drawn(pocketed, BENT_PLACES), BENT_TEXT)

    def test_pieces_far_apart(self):
        apart = (2, 1, (None, None), (None, None), (), (((1, 1, 1), "z"),))
        self.assertEqual(drawn(apart, ((-1, 1), (1, -1))), "+-+\n|.|\n+-+\n\n    +-z\n    |.|\n    +-+")
        self.assertEqual(drawn(apart, ((0, 0), (1, -1))), "+-+\n|.|\n+-+-z\n  |.|\n  +-+")
        self.assertEqual(drawn(apart, ((2, 0), (0, 0))), "+-z +-+\n|.| |.|\n+-+ +-+")
        text = drawn(apart, ((40, 40), (0, 0)))
        lines = text.split("\n")
        self.assertEqual([len(lines), lines[0], lines[80]], [83, " " * 80 + "+-+", "+-z" ])
        self.assertEqual(lines[3:80], [""] * 77)

    def test_beside_another_drawing(self):
        for table, places in flats(300, seed=2):
            self.assertEqual(drawn(table, places), flat.drawing(table, places))
        for table, places in flats(40, seed=3, most=12, wide=20):
            self.assertEqual(drawn(table, places), flat.drawing(table, places))


class TestRead(unittest.TestCase):
    def place(self, text):
        try:
            read_drawing(text)
        except NoText as error:
            return (error.line, error.column)
        return None

    def test_there_and_back(self):
        for table, places in flats(300, seed=5) + flats(40, seed=6, most=14, wide=12):
            text = drawn(table, places)
            read, where = read_drawing(text)
            left, low = min(x for x, _ in places), min(y for _, y in places)
            self.assertEqual(where, tuple(sorted([(x - left, y - low) for x, y in places])))
            self.assertIs(is_table(read), True)
            self.assertIs(lies_at(read, where), True)
            self.assertEqual(drawn(read, where), text)
            # CELLS are called otherwise, but the joints are those of the TABLE.
            order = [where.index((x - left, y - low)) for x, y in places]
            for row, back in ((table[2], read[2]), (table[3], read[3])):
                for cell, other in enumerate(row):
                    self.assertEqual(back[order[cell]], None if other is None else order[other])

    def test_some(self):
        self.assertEqual(read_drawing(BENT_TEXT), BENT_READ)
        self.assertEqual(read_drawing("b-d\n|.|\na-c"), (BOX, ((0, 0),)))
        self.assertEqual(read_drawing("+-+-c\n|.|.|\n+ + +\n|. .|\n+-+-+")[0],
                         (4, 1, (2, None, None, None), (1, None, 3, None), (), (((3, 1, 1), "c"),)))
        # A wall that does not stand between two CELLS whose CORNERS are not one there: both have the pocket.
        read = read_drawing("+-c-+\n|.|.|\n+-+-+")[0]
        self.assertEqual(read, (2, 1, (None, None), (None, None), (), (((0, 1, 1), "c"), ((1, 0, 1), "c"))))

    def test_blanks_and_lines_more(self):
        for text in (
            "  " + BENT_TEXT.replace("\n", "\n  "), "\n\n" + BENT_TEXT, BENT_TEXT + "\n", BENT_TEXT + "\n\n   \n",
            "  \n    \n" + BENT_TEXT, BENT_TEXT.replace("\n", "     \n"), BENT_TEXT + "   ",
            "\n \n\n\n" + "      " + BENT_TEXT.replace("\n", "\n      ") + "\n",
        ):
            self.assertEqual(read_drawing(text), BENT_READ, text)
        for table, places in flats(60, seed=8):
            text = drawn(table, places)
            read = read_drawing(text)
            self.assertEqual(read_drawing("\n\n" + "    " + text.replace("\n", "  \n    ") + " \n"), read)

    def test_odd_numbers_of_blanks_ahead(self):
        self.assertEqual(self.place(" " + BENT_TEXT.replace("\n", "\n ")), (0, 0))
        self.assertEqual(self.place("\n" + BENT_TEXT), (0, 0))
        self.assertEqual(self.place("\n\n\n" + BENT_TEXT), (0, 0))

    def test_no_cell(self):
        for text in ("", "\n", " ", ".", "..", "+-+\n| |\n+-+", "\n.", "a", "\n\n.", "\n\n .", "\n. .", "~" * 3000,
                     "  a", "\n\n\n\n+-+", ". . .\n", "+.+\n|,|\n+-+"):
            self.assertEqual(self.place(text), (0, 0), text)

    def test_texts_cut_off(self):
        lines = BENT_TEXT.split("\n")
        self.assertEqual(self.place("\n".join(lines[:4])), (4, 0))
        self.assertEqual(self.place("\n".join(lines[:4]) + "\n"), (4, 0))
        self.assertEqual(self.place(BENT_TEXT[:-1]), (4, 4))
        self.assertEqual(self.place(BENT_TEXT[:-3]), (4, 2))
        self.assertEqual(self.place("+-+\n|."), (1, 2))
        self.assertEqual(self.place("+-\n|."), (0, 2))
        for table, places in flats(40, seed=9, most=3, wide=2):
            text = drawn(table, places)
            for at in range(len(text)):
                self.assertEqual(self.place(text[:at]), flat.first_fault(text[:at]), text[:at])

    def test_one_sign_otherwise(self):
        rng = random.Random(10)
        for table, places in flats(120, seed=10, most=4, wide=3):
            text = drawn(table, places)
            for at in range(len(text)):
                for sign in rng.sample(" .+-|aZ1z\n_`{~", 4):
                    changed = text[:at] + sign + text[at + 1:]
                    self.assertEqual(self.place(changed), flat.first_fault(changed), changed)

    def test_signs_put_in_and_left_out(self):
        rng = random.Random(14)
        for table, places in flats(120, seed=15, most=4, wide=3):
            text = drawn(table, places)
            for _ in range(6):
                at = rng.randrange(len(text))
                changed = text[:at] + text[at + 1:]
                self.assertEqual(self.place(changed), flat.first_fault(changed), changed)
                changed = text[:at] + rng.choice(" .+-|a\n") + text[at:]
                self.assertEqual(self.place(changed), flat.first_fault(changed), changed)
            behind = text + "\n" * rng.randint(0, 3) + " " * rng.randint(0, 3) + rng.choice(" .+-|a")
            self.assertEqual(self.place(behind), flat.first_fault(behind), behind)

    def test_signs_at_each_kind_of_place(self):
        text = "b-d\n|.|\na-c"
        for at, good in ((0, "+abz"), (1, "-"), (2, "+abz"), (4, "|"), (6, "|"), (8, "+abz"), (9, "-"), (10, "+abz")):
            place = (text[:at].count("\n"), at % 4)
            for sign in " .+-|abzAZ09~_`{":
                changed = text[:at] + sign + text[at + 1:]
                self.assertEqual(self.place(changed), None if sign in good else place, changed)
        for sign in "+-|a,:~":
            self.assertEqual(self.place("+-+-+\n|. .|\n+-+-+".replace(". .", "." + sign + ".")),
                             None if sign == "|" else (1, 2))
            self.assertEqual(self.place("+-+\n|.|\n+ +\n|.|\n+-+".replace("+ +", "+" + sign + "+")),
                             None if sign == "-" else (2, 1))
        self.assertEqual(self.place("+-+-+\n|.|x|\n+-+-+"), (0, 3))
        self.assertEqual(self.place("+-+\n|.| x\n+-+"), (1, 4))
        self.assertEqual(self.place("+-+\n|.|\t\n+-+"), (1, 3))
        self.assertEqual(self.place("+-+\n|.|\n+-+\n\n  x"), (4, 2))
        self.assertEqual(self.place("+-+\n|.|x\n+-+"), (1, 3))

    def test_values_that_are_no_strings(self):
        for thing in plain.odd_values() + [Wrong(1), BENT_TEXT.split("\n"), b"+-+\n|.|\n+-+"]:
            if type(thing) is not str:
                with self.assertRaises(Wrong) as caught:
                    read_drawing(thing)
                self.assertEqual(caught.exception.place, 0)

    def test_a_great_drawing(self):
        many = 600
        text = "+-" * many + "+\n|" + ". " * (many - 1) + ".|\n" + "+-" * many + "+"
        table, places = read_drawing(text)
        self.assertEqual(table, (many, 1, tuple(range(1, many)) + (None,), (None,) * many, (), ()))
        self.assertEqual(places, tuple([(x, 0) for x in range(many)]))
        upright = "+-+\n" + "|.|\n+ +\n" * (many - 1) + "|.|\n+-+"
        table, places = read_drawing(upright)
        self.assertEqual(table, (many, 1, (None,) * many, tuple(range(1, many)) + (None,), (), ()))
        self.assertEqual(places, tuple([(0, y) for y in range(many)]))


if __name__ == "__main__":
    unittest.main()
