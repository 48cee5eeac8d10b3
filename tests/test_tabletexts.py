"""[14]: TABLES as texts, there and back, and the first wrong word."""

import random
import unittest

from hownarrow.errors import NoText, Wrong
from hownarrow.tabletexts import read_table, show_table
from tests import plain
from tests.plain import BOX, DIAL, ENDING, SEVERAL, TWO

TEXT = (
    "cells 3\nmarks 2\nright 0 1\nright 1 0\nup 2 0\ndial right 0 1 0\ndial down 2 1 0\n"
    "pocket 0 0 0 a\npocket 2 1 0 b"
)
TABLE = (3, 2, (1, 0, None), (None, None, 0), ((("down", 2), (1, 0)), (("right", 0), (1, 0))),
         (((0, 0, 0), "a"), ((2, 1, 0), "b")))


def shown(table):
    """The text of a TABLE, told straight from [14]."""
    lines = [f"cells {table[0]}", f"marks {table[1]}"]
    lines += [f"right {cell} {table[2][cell]}" for cell in range(table[0]) if table[2][cell] is not None]
    lines += [f"up {cell} {table[3][cell]}" for cell in range(table[0]) if table[3][cell] is not None]
    lines += [f"dial {side} {cell} {' '.join(map(str, turn))}" for (side, cell), turn in table[4]]
    lines += [f"pocket {cell} {x} {y} {name}" for (cell, x, y), name in table[5]]
    return "\n".join(lines)


class TestShow(unittest.TestCase):
    def test_the_lines(self):
        self.assertEqual(show_table(TWO), "cells 2\nmarks 1\nright 0 1\npocket 0 0 0 a")
        self.assertEqual(show_table(plain.ONE), "cells 1\nmarks 1")
        self.assertEqual(
            show_table(SEVERAL),
            "cells 4\nmarks 3\nright 0 1\nright 2 2\nup 1 1\nup 2 3\ndial left 3 2 0 1\ndial up 2 0 2 1\n"
            "pocket 0 0 0 a\npocket 2 0 0 b\npocket 3 0 1 a",
        )

    def test_there_and_back(self):
        for table in plain.tables(150):
            self.assertEqual(show_table(table), shown(table))
            self.assertEqual(read_table(show_table(table)), table)

    def test_a_great_table(self):
        many = 1000
        row = tuple(range(1, many)) + (None,)
        table = (many, 1, row, (None,) * many, (), (((9, 1, 0), "a"), ((999, 1, 1), "b")))
        self.assertEqual(read_table(show_table(table)), table)
        turn = tuple(range(1, many)) + (0,)
        table = (1, many, (None,), (None,), ((("up", 0), turn),), ())
        self.assertEqual(read_table(show_table(table)), table)


class TestRead(unittest.TestCase):
    def place(self, text):
        """The place at which a text is wrong, None if it is right."""
        try:
            read_table(text)
        except NoText as error:
            return (error.line, error.column)
        return None

    def refused(self, text, line, column):
        self.assertEqual(self.place(text), (line, column), text)

    def test_lines_of_one_sort_in_any_order(self):
        rng = random.Random(4)
        for table in plain.tables(80):
            lines = shown(table).split("\n")
            order = ["cells", "marks", "right", "up", "dial", "pocket"]
            rng.shuffle(lines)
            lines = sorted(lines, key=lambda line: order.index(line.split(" ")[0]))
            self.assertEqual(read_table("\n".join(lines)), table)

    def test_more_blanks_and_lines_without_words(self):
        rng = random.Random(6)
        for table in plain.tables(80):
            text = ""
            for line in shown(table).split("\n"):
                text += rng.choice(("", "\n", "   \n", "\n\n  "))
                text += (" " * rng.randint(1, 3)).join([""] * rng.randint(0, 1) + line.split(" "))
                text += rng.choice(("", " ", "    ")) + "\n"
            self.assertEqual(read_table(text), table)
            self.assertEqual(read_table(text[:-1]), table)

    def test_a_tab_is_no_blank(self):
        self.refused("cells 1\nmarks\t1", 1, 0)
        self.refused("cells 1\nmarks 1\n\t", 2, 0)
        self.refused("cells 1\r\nmarks 1", 0, 6)
        self.refused("cells 1\x0bmarks 1", 0, 6)

    def test_first_words(self):
        self.refused("cell 1\nmarks 1", 0, 0)
        self.refused("Cells 1\nmarks 1", 0, 0)
        self.refused("\n  marks 1\ncells 1", 1, 2)
        self.refused("  right 0 0", 0, 2)
        self.refused("cells 1\ncells 1\nmarks 1", 1, 0)
        self.refused("cells 1\n\n right 0 0\nmarks 1", 2, 1)
        self.refused("cells 1\npocket 0 0 0 a", 1, 0)
        self.refused("cells 1\nmarks 1\nmarks 1", 2, 0)
        self.refused("cells 1\nmarks 1\n cells 1", 2, 1)
        self.refused("cells 1\nmarks 1\nright 0 0\nmarks 1", 3, 0)
        self.refused("cells 1\nmarks 1\nright 0 0\n cells 1", 3, 1)
        self.refused("cells 1\nmarks 1\nfoo", 2, 0)
        self.refused("cells 1\nmarks 1\n1", 2, 0)
        sorts = ["right 0 0", "up 0 0", "dial down 1 1 0", "pocket 1 1 0 a"]
        for late in range(4):
            for early in range(late):
                text = "cells 2\nmarks 2\n" + sorts[late] + "\n   " + sorts[early]
                self.refused(text, 3, 3)
            self.assertIsNone(self.place("cells 2\nmarks 2\n" + "\n".join(sorts[late:])))

    def test_texts_that_end_too_early(self):
        self.refused("", 1, 0)
        self.refused("\n", 2, 0)
        self.refused("   ", 1, 0)
        self.refused("\n  \n", 3, 0)
        self.refused("cells 1", 1, 0)
        self.refused("cells 1\n", 2, 0)
        self.refused("  cells 1\n  \n ", 3, 0)
        self.assertIsNone(self.place("cells 1\nmarks 1"))

    def test_lines_that_end_too_early(self):
        lines = TEXT.split("\n")
        for at, line in enumerate(lines):
            words = line.split(" ")
            for many in range(1, len(words)):
                for behind in ("", " ", "   "):
                    short = "  " + "  ".join(words[:many]) + behind
                    text = "\n".join(lines[:at] + [short] + lines[at + 1:])
                    self.refused(text, at, len(short))

    def test_words_too_many(self):
        lines = TEXT.split("\n")
        for at, line in enumerate(lines):
            for more in ("0", "1", "a", "right", "x"):
                text = "\n".join(lines[:at] + [line + "  " + more + " 7"] + lines[at + 1:])
                self.refused(text, at, len(line) + 2)

    def wrong_word(self, at, which, words):
        """Each of words in the place of a word of TEXT is refused there."""
        lines = TEXT.split("\n")
        for word in words:
            changed = lines[at].split(" ")
            column = len(" ".join(changed[:which])) + 1
            changed[which] = word
            text = "\n".join(lines[:at] + [" ".join(changed)] + lines[at + 1:])
            self.refused(text, at, column)

    def test_the_text_itself(self):
        self.assertEqual(read_table(TEXT), TABLE)

    def test_integers(self):
        odd = ("-1", "+1", "00", "01", "1.", "1_0", "0x1", "one", "-0", "--1", "1e3", "\u0661", "\u00b2", "9" * 2900,
               "9" * 5000)
        for at, which in ((0, 1), (1, 1), (2, 1), (2, 2), (4, 1), (4, 2), (5, 2), (5, 3), (5, 4), (7, 1), (7, 2),
                          (7, 3)):
            self.wrong_word(at, which, odd)
        self.wrong_word(0, 1, ("0", "1001", "10000", "2000"))
        self.wrong_word(1, 1, ("0", "1001", "10000", "02"))
        self.assertEqual(read_table("cells 1000\nmarks 1000")[:2], (1000, 1000))
        self.assertEqual(read_table("cells 999\nmarks 10")[:2], (999, 10))

    def test_joins(self):
        for at in (2, 3, 4):
            self.wrong_word(at, 1, ("3", "4", "10", "a"))
            self.wrong_word(at, 2, ("3", "4", "10", "a"))
        self.wrong_word(3, 1, ("0",))
        self.wrong_word(3, 2, ("1",))
        self.refused("cells 2\nmarks 1\nup 0 1\nup 0 0", 3, 3)
        self.refused("cells 2\nmarks 1\nup 0 1\nup 1 1", 3, 5)
        # What stands at the other place, or in the other sort, does not matter.
        self.assertEqual(read_table("cells 2\nmarks 1\nright 0 1\nright 1 0\nup 0 1\nup 1 0")[2:4], ((1, 0), (1, 0)))
        self.assertEqual(read_table("cells 2\nmarks 1\nup 1 1\nup 0 0")[3], (0, 1))

    def test_dials(self):
        self.wrong_word(5, 1, ("Right", "side", "0", "cells"))
        self.wrong_word(5, 2, ("3", "a"))
        self.wrong_word(6, 2, ("3", "0"))
        self.refused("cells 2\nmarks 2\nright 0 1\ndial left 1 1 0", 3, 10)
        self.refused("cells 2\nmarks 2\nup 0 1\ndial down 1 1 0", 3, 10)
        self.assertIsNone(self.place("cells 2\nmarks 2\nup 0 1\ndial left 1 1 0\ndial down 0 1 0"))
        self.assertIsNone(self.place("cells 2\nmarks 2\nright 0 1\ndial left 0 1 0\ndial right 0 1 0"))
        self.refused("cells 2\nmarks 2\ndial right 0 1 0\ndial  right 0 1 0", 3, 12)
        self.wrong_word(5, 3, ("2", "a"))
        self.wrong_word(5, 4, ("2", "1", "a"))
        self.refused("cells 1\nmarks 3\ndial up 0 0 1 2", 2, 14)
        self.refused("cells 1\nmarks 3\ndial up 0 0 1 2 0", 2, 14)
        self.refused("cells 1\nmarks 3\ndial up 0 1 0 1", 2, 14)
        self.refused("cells 1\nmarks 3\ndial up 0 1 1 2", 2, 12)
        self.refused("cells 1\nmarks 1\ndial up 0 0", 2, 10)
        self.refused("cells 1\nmarks 1\ndial up 0 1", 2, 10)
        self.assertEqual(read_table("cells 1\nmarks 3\ndial up 0 0 2 1")[4], ((("up", 0), (0, 2, 1)),))

    def test_pockets(self):
        self.wrong_word(7, 1, ("3", "a"))
        self.wrong_word(7, 2, ("2", "a"))
        self.wrong_word(7, 3, ("2", "a"))
        odd = ("A", "1", "aB", "abcdefghijklm", "a-b", "-", "a.", "\u00e9")
        self.wrong_word(7, 4, odd)
        self.assertEqual(read_table("cells 1\nmarks 1\npocket 0 1 1 abcdefghijkl")[5], (((0, 1, 1), "abcdefghijkl"),))
        # A CORNER that is not the least of its POINT, or that has its line already: its Y is wrong.
        self.refused("cells 2\nmarks 1\nright 0 1\npocket 1 0 0 a", 3, 11)
        self.refused("cells 2\nmarks 1\nright 0 1\npocket 1  0  1  A", 3, 13)
        self.refused("cells 2\nmarks 1\nup 0 1\n pocket 1 1 0 a", 3, 12)
        self.refused("cells 2\nmarks 1\npocket 1 0 0 a\npocket 1 0 0 b", 3, 11)
        self.refused("cells 2\nmarks 1\npocket 1 0 0 a\npocket 1 0 0", 3, 11)
        self.assertIsNone(self.place("cells 2\nmarks 1\npocket 1 0 1 a\npocket 1 0 0 a"))

    def test_the_first_wrong_word_counts(self):
        self.refused("cells 01 5", 0, 6)
        self.refused("cells 5 5\nmarks 0", 0, 8)
        self.refused("cells 2\nmarks 1\nright 2 2 2", 2, 6)
        self.refused("cells 2\nmarks 1\nright 0 2 2", 2, 8)
        self.refused("cells 2\nmarks 1\nright 0\nfoo", 2, 7)
        self.refused("cells 2\nmarks 2\ndial left 5 5", 2, 10)
        self.refused("cells 2\nmarks 2\nmarks 2\nfoo", 2, 0)

    def test_one_word_otherwise(self):
        # What is read is a TABLE that is shown with the same words, or it is refused within the text.
        rng = random.Random(8)
        words = ["0", "1", "2", "3", "a", "right", "left", "up", "down", "dial", "pocket", "cells", "marks", ""]
        for table in plain.tables(120, seed=3):
            lines = shown(table).split("\n")
            at = rng.randrange(len(lines))
            changed = lines[at].split(" ")
            changed[rng.randrange(len(changed))] = rng.choice(words)
            lines[at] = " ".join(changed)
            try:
                read = read_table("\n".join(lines))
            except NoText as error:
                self.assertTrue(at <= error.line <= len(lines))
            else:
                told = [" ".join(line.split()) for line in lines if line.split()]
                self.assertEqual(sorted(shown(read).split("\n")), sorted(told))

    def test_values_that_are_no_strings(self):
        for thing in plain.odd_values() + [Wrong(1), ["cells 1", "marks 1"], b"cells 1"]:
            if type(thing) is str:
                self.assertIsNotNone(self.place(thing))
            else:
                with self.assertRaises(Wrong) as caught:
                    read_table(thing)
                self.assertEqual(caught.exception.place, 0)

    def test_examples_are_read_whole(self):
        for table in (BOX, DIAL, ENDING):
            self.assertEqual(read_table("\n\n" + show_table(table).replace(" ", "   ") + "\n"), table)


if __name__ == "__main__":
    unittest.main()
