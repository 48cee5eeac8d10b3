"""Tables as texts: one line for the size, the marks, each join, dial and pocket."""

from hownarrow.errors import NoText, Wrong
from hownarrow.forms import SIDES, callers, is_edge_in, is_name, moves

SORTS = ("cells", "marks", "right", "up", "dial", "pocket")
MOST = 1000


def show_table(table):
    """Return the text of a TABLE."""
    size, marks, rights, ups, dials, pockets = table
    rows = [("cells", size), ("marks", marks)]
    rows.extend([("right", cell, other) for cell, other in enumerate(rights) if other is not None])
    rows.extend([("up", cell, other) for cell, other in enumerate(ups) if other is not None])
    rows.extend([("dial", *edge, *permutation) for edge, permutation in dials])
    rows.extend([("pocket", *corner, name) for corner, name in pockets])
    return "\n".join([" ".join([str(word) for word in row]) for row in rows])


def words_of(line):
    """Return the list of tuples (column, word) of a line; only blanks part words."""
    words = []
    column = 0
    for word in line.split(" "):
        if word != "":
            words.append((column, word))
        column += len(word) + 1
    return words


def number_shown(word, most):
    """Return the integer from 0 to most that is written so, None if there is none."""
    # The length is asked first: Python reads no integers of thousands of digits.
    if not 1 <= len(word) <= len(str(most)) or not all(["0" <= sign <= "9" for sign in word]):
        return None
    number = int(word)
    return number if str(number) == word and number <= most else None


class Words:
    """The words of one line, taken one after the other."""

    def __init__(self, number, line):
        self.number = number
        self.length = len(line)
        self.waiting = words_of(line)
        self.column = 0

    def has_more(self):
        """Tell whether there are words that were not taken."""
        return self.waiting != []

    def refuse(self):
        """Raise NoText for the word that was taken last."""
        raise NoText(self.number, self.column)

    def take(self):
        """Return the next word, which has to be there."""
        if not self.has_more():
            raise NoText(self.number, self.length)
        column, word = self.waiting.pop(0)
        self.column = column
        return word

    def take_number(self, least, most):
        """Return the next word as an integer from least to most."""
        number = number_shown(self.take(), most)
        if number is None or number < least:
            self.refuse()
        return number

    def finish(self):
        """Raise NoText if there is one more word."""
        if self.has_more():
            self.take()
            self.refuse()


class Reader:
    """What was read of a TABLE so far, line by line."""

    def __init__(self):
        self.last = -1
        self.size = 0
        self.marks = 0
        self.rights = []
        self.ups = []
        self.dials = {}
        self.pockets = {}
        self.least = {}

    def read(self, words):
        """Read one line that has words."""
        sort = self.sort_of(words)
        if sort == 0:
            self.size = words.take_number(1, MOST)
            self.rights = [None] * self.size
            self.ups = [None] * self.size
        elif sort == 1:
            self.marks = words.take_number(1, MOST)
        elif sort == 2:
            self.read_join(words, self.rights)
        elif sort == 3:
            self.read_join(words, self.ups)
        elif sort == 4:
            self.read_dial(words)
        else:
            self.read_pocket(words)
        words.finish()
        self.last = sort

    def sort_of(self, words):
        """Return the index of the sort that the first word tells."""
        word = words.take()
        if word not in SORTS:
            words.refuse()
        sort = SORTS.index(word)
        # The first two sorts have just one line each, and both must stand.
        is_next = sort == self.last + 1 if self.last < 1 else sort > 1 and sort >= self.last
        if not is_next:
            words.refuse()
        return sort

    def read_join(self, words, row):
        """Read which CELL is JOINED to which other one in rights or ups."""
        cell = words.take_number(0, self.size - 1)
        if row[cell] is not None:
            words.refuse()
        other = words.take_number(0, self.size - 1)
        if other in row:
            words.refuse()
        row[cell] = other

    def read_dial(self, words):
        """Read an EDGE and its PERMUTATION."""
        side = words.take()
        if side not in SIDES:
            words.refuse()
        edge = (side, words.take_number(0, self.size - 1))
        if not is_edge_in(self.rights, self.ups, edge) or edge in self.dials:
            words.refuse()
        permutation = []
        for _ in range(self.marks):
            mark = words.take_number(0, self.marks - 1)
            if mark in permutation:
                words.refuse()
            permutation.append(mark)
        if not moves(permutation):
            words.refuse()
        self.dials[edge] = tuple(permutation)

    def read_pocket(self, words):
        """Read the CORNER that calls a POINT, and the NAME of its pocket."""
        cell = words.take_number(0, self.size - 1)
        x = words.take_number(0, 1)
        y = words.take_number(0, 1)
        corner = (cell, x, y)
        # No join can follow a pocket's line, so the POINTS are found just once.
        if self.least == {}:
            self.least = callers(self.rights, self.ups)
        if self.least[corner] != corner or corner in self.pockets:
            words.refuse()
        name = words.take()
        if not is_name(name):
            words.refuse()
        self.pockets[corner] = name

    def made(self):
        """Return the TABLE that was read."""
        dials = tuple(sorted(list(self.dials.items())))
        pockets = tuple(sorted(list(self.pockets.items())))
        return (self.size, self.marks, tuple(self.rights), tuple(self.ups), dials, pockets)


def read_table(text):
    """Return the TABLE that a text shows."""
    if not isinstance(text, str):
        raise Wrong(0)
    lines = text.split("\n")
    reader = Reader()
    for number, line in enumerate(lines):
        words = Words(number, line)
        if words.has_more():
            reader.read(words)
    if reader.last < 1:
        raise NoText(len(lines), 0)
    return reader.made()
