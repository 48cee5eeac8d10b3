"""Drawings: tables that lie in the plane, as lines of signs."""

from hownarrow.errors import NoText, Wrong
from hownarrow.forms import callers, has_twice, is_integer, is_tuple_of
from hownarrow.tables import corners_of, edges_of, joined_to, table_of

LETTERS = "abcdefghijklmnopqrstuvwxyz"
CUSHIONS = {"right": (0, 1, "|"), "left": (0, -1, "|"), "up": (-1, 0, "-"), "down": (1, 0, "-")}


def is_place(thing):
    """Tell whether thing is a tuple of two integers."""
    return is_tuple_of(2, thing) and is_integer(thing[0]) and is_integer(thing[1])


def are_places(size, thing):
    """Tell whether thing is PLACES of so many CELLS."""
    if not is_tuple_of(size, thing):
        return False
    return all([is_place(place) for place in thing]) and not has_twice(thing)


def leads_by(row, places, x, y):
    """Tell whether each joint of a row leads so far to the side and so far up."""
    return all([
        other is None or places[other] == (places[cell][0] + x, places[cell][1] + y)
        for cell, other in enumerate(row)
    ])


def pockets_by_whole(table, places):
    """Return a list of tuples (whole point, name or None), one for each CORNER."""
    least = callers(table[2], table[3])
    names = {corner: name for corner, name in table[5]}
    return [
        ((places[cell][0] + x, places[cell][1] + y), names.get(least[(cell, x, y)]))
        for cell, x, y in corners_of(table)
    ]


def lies_at(table, thing):
    """Tell whether thing is PLACES at which a TABLE LIES."""
    if not are_places(table[0], thing) or table[1] != 1:
        return False
    if not leads_by(table[2], thing, 1, 0) or not leads_by(table[3], thing, 0, 1):
        return False
    if any([len(pocket[1]) > 1 for pocket in table[5]]):
        return False
    named = {pair: True for pair in pockets_by_whole(table, thing)}
    return not has_twice([pair[0] for pair in named])


def signs_of(table, places):
    """Return the dict from (line, column) to the sign of a DRAWING that stands there."""
    left = min([place[0] for place in places])
    top = max([place[1] for place in places])
    signs = {}
    for x, y in places:
        signs[(2 * (top - y) + 1, 2 * (x - left) + 1)] = "."
    for edge in edges_of(table):
        if joined_to(table, edge) is None:
            side, cell = edge
            x, y = places[cell]
            line, column, sign = CUSHIONS[side]
            signs[(2 * (top - y) + 1 + line, 2 * (x - left) + 1 + column)] = sign
    for whole, name in pockets_by_whole(table, places):
        x, y = whole
        signs[(2 * (top + 1 - y), 2 * (x - left))] = "+" if name is None else name
    return signs


def drawn(table, places):
    """Return the DRAWING of a TABLE at PLACES."""
    signs = signs_of(table, places)
    height = 1 + max([spot[0] for spot in signs])
    width = 1 + max([spot[1] for spot in signs])
    lines = ["".join([signs.get((line, column), " ") for column in range(width)]) for line in range(height)]
    return "\n".join([line.rstrip(" ") for line in lines])


def sign_at(lines, line, column):
    """Return the sign that stands there; blanks stand behind all ends."""
    if line >= len(lines) or column >= len(lines[line]):
        return " "
    return lines[line][column]


def cells_told(lines):
    """Return the list of tuples (line, column) at which a CELL is drawn."""
    return [
        (line, column)
        for line in range(1, len(lines), 2)
        for column in range(1, len(lines[line]), 2)
        if lines[line][column] == "."
    ]


def signs_allowed(cells):
    """Return the dict from (line, column) to the signs that may stand about these CELLS."""
    allowed = {}
    for line, column in cells:
        allowed[(line, column)] = "."
        for step in (-1, 1):
            for at, sign in (((line, column + step), "|"), ((line + step, column), "-")):
                # Only between two CELLS may there be no CUSHION.
                allowed[at] = sign + " " if at in allowed else sign
            for other in (-1, 1):
                allowed[(line + step, column + other)] = "+" + LETTERS
    return allowed


def check_signs(lines, cells):
    """Raise NoText for the first place with a sign that cannot stand there."""
    allowed = signs_allowed(cells)
    ends = {}
    for line, column in allowed:
        ends[line] = max(ends.get(line, 0), column + 1)
    for line in range(max(len(lines), max(list(ends)) + 1)):
        length = len(lines[line]) if line < len(lines) else 0
        for column in range(max(length, ends.get(line, 0))):
            if sign_at(lines, line, column) not in allowed.get((line, column), " "):
                raise NoText(line, column)


def row_read(lines, spots, line, column):
    """Return the row of the CELL that lies so many signs away from each one, JOINED by a blank."""
    drawn_at = {spot: cell for cell, spot in enumerate(spots)}
    row = []
    for at, across in spots:
        is_open = sign_at(lines, at + line // 2, across + column // 2) == " "
        row.append(drawn_at.get((at + line, across + column)) if is_open else None)
    return tuple(row)


def pockets_read(lines, spots, least):
    """Return the list of tuples (corner, name) of the POINTS that are drawn as letters."""
    pockets = []
    for corner in [one for one in least if least[one] == one]:
        cell, x, y = corner
        line, column = spots[cell]
        sign = sign_at(lines, line + 1 - 2 * y, column - 1 + 2 * x)
        if sign in LETTERS:
            pockets.append((corner, sign))
    return pockets


def read_drawing(text):
    """Return the tuple (TABLE, PLACES) that a DRAWING shows."""
    if not isinstance(text, str):
        raise Wrong(0)
    lines = text.split("\n")
    cells = cells_told(lines)
    if not cells:
        raise NoText(0, 0)
    check_signs(lines, cells)
    left = min([spot[1] for spot in cells])
    bottom = max([spot[0] for spot in cells])
    placed = sorted([((column - left) // 2, (bottom - line) // 2, line, column) for line, column in cells])
    places = tuple([item[:2] for item in placed])
    spots = [item[2:] for item in placed]
    rights = row_read(lines, spots, 0, 2)
    ups = row_read(lines, spots, -2, 0)
    pockets = pockets_read(lines, spots, callers(rights, ups))
    return (table_of(1, rights, ups, [], pockets), places)
