"""Tables otherwise: turned, cut finer, joined or parted, with other dials and pockets."""

from hownarrow.forms import backward, callers
from hownarrow.tables import corners_of, point_of, table_of

ASIDE = {"right": "left", "left": "right", "up": "up", "down": "down"}
OVER = {"right": "right", "left": "left", "up": "down", "down": "up"}
ACROSS = {"right": "up", "left": "down", "up": "right", "down": "left"}


def dials_told(table):
    """Return the list of tuples (side, cell, permutation) of dials."""
    return [(edge[0], edge[1], permutation) for edge, permutation in table[4]]


def mirrored(table, is_up):
    """Return the TABLE with left and right exchanged, or below and above if is_up is True."""
    marks, rights, ups = table[1:4]
    if is_up:
        dials = [(OVER[side], cell, permutation) for side, cell, permutation in dials_told(table)]
        pockets = [((cell, x, 1 - y), name) for (cell, x, y), name in table[5]]
        return table_of(marks, rights, backward(ups), dials, pockets)
    dials = [(ASIDE[side], cell, permutation) for side, cell, permutation in dials_told(table)]
    pockets = [((cell, 1 - x, y), name) for (cell, x, y), name in table[5]]
    return table_of(marks, backward(rights), ups, dials, pockets)


def turned(table):
    """Return the TABLE with x and y exchanged."""
    marks, rights, ups = table[1:4]
    dials = [(ACROSS[side], cell, permutation) for side, cell, permutation in dials_told(table)]
    pockets = [((cell, y, x), name) for (cell, x, y), name in table[5]]
    return table_of(marks, ups, rights, dials, pockets)


def row_renamed(row, order):
    """Return rights or ups with each CELL c called order[c]."""
    called = [None] * len(row)
    for cell, other in enumerate(row):
        if other is not None:
            called[order[cell]] = order[other]
    return called


def renamed(table, order):
    """Return the TABLE with each CELL c called order[c]."""
    marks, rights, ups = table[1:4]
    dials = [(side, order[cell], permutation) for side, cell, permutation in dials_told(table)]
    pockets = [((order[cell], x, y), name) for (cell, x, y), name in table[5]]
    return table_of(marks, row_renamed(rights, order), row_renamed(ups, order), dials, pockets)


def part_of(many, cell, i, j):
    """Return what the i-th part to the side and the j-th upward of a CELL is called."""
    return (cell * many + j) * many + i


def parts_along(many, side, cell):
    """Return the list of the parts of a CELL that lie along one SIDE of it."""
    last = many - 1
    if side == "right":
        return [part_of(many, cell, last, at) for at in range(many)]
    if side == "left":
        return [part_of(many, cell, 0, at) for at in range(many)]
    if side == "up":
        return [part_of(many, cell, at, last) for at in range(many)]
    return [part_of(many, cell, at, 0) for at in range(many)]


def row_refined(row, many, side):
    """Return rights or ups of the parts, side being the SIDE over which row leads."""
    step = 1 if side == "right" else many
    refined_row = [part + step for part in range(len(row) * many * many)]
    for cell, other in enumerate(row):
        edge = parts_along(many, side, cell)
        if other is None:
            beyond = [None] * many
        else:
            beyond = parts_along(many, "left" if side == "right" else "down", other)
        for part, there in zip(edge, beyond):
            refined_row[part] = there
    return refined_row


def refined_corner(many, corner):
    """Return the CORNER of the refined TABLE that lies where a CORNER lay."""
    cell, x, y = corner
    return (part_of(many, cell, x * (many - 1), y * (many - 1)), x, y)


def refined(table, many):
    """Return the TABLE with each CELL cut into many times many ones."""
    marks, rights, ups = table[1:4]
    dials = [
        (side, part, permutation)
        for side, cell, permutation in dials_told(table)
        for part in parts_along(many, side, cell)
    ]
    pockets = [(refined_corner(many, corner), name) for corner, name in table[5]]
    return table_of(marks, row_refined(rights, many, "right"), row_refined(ups, many, "up"), dials, pockets)


def row_instead(table, side, row):
    """Return the tuple (rights, ups) of a TABLE, with row in the place of one of them."""
    return (row, table[3]) if side == "right" else (table[2], row)


def with_join(table, side, cell, other):
    """Return the TABLE with this edge of a CELL joined to one of another CELL, or None."""
    row = list(table[2] if side == "right" else table[3])
    if row[cell] is not None or other in row:
        return None
    row[cell] = other
    rights, ups = row_instead(table, side, row)
    gone = ((side, cell), ("left" if side == "right" else "down", other))
    dials = [dial for dial in dials_told(table) if dial[:2] not in gone]
    least = callers(rights, ups)
    names = {}
    # Pockets ascend: where POINTS become one, that of the least CORNER comes first and stays.
    for corner, name in table[5]:
        names.setdefault(least[corner], name)
    return table_of(table[1], rights, ups, dials, list(names.items()))


def without_join(table, side, cell):
    """Return the TABLE with a JOINED edge parted into CUSHIONS, or None."""
    row = list(table[2] if side == "right" else table[3])
    if row[cell] is None:
        return None
    row[cell] = None
    rights, ups = row_instead(table, side, row)
    dials = [dial for dial in dials_told(table) if dial[:2] != (side, cell)]
    names = {corner: name for corner, name in table[5]}
    before = callers(table[2], table[3])
    least = callers(rights, ups)
    pockets = [
        (corner, names[before[corner]])
        for corner in corners_of(table)
        if least[corner] == corner and before[corner] in names
    ]
    return table_of(table[1], rights, ups, dials, pockets)


def with_dial(table, edge, permutation):
    """Return the TABLE in which an EDGE has this PERMUTATION."""
    dials = [dial for dial in dials_told(table) if dial[:2] != edge]
    dials.append((edge[0], edge[1], permutation))
    return table_of(table[1], table[2], table[3], dials, table[5])


def pockets_elsewhere(table, corner):
    """Return the list of the pockets that are not at the POINT of a CORNER."""
    caller = point_of(table, corner)[0]
    return [pocket for pocket in table[5] if pocket[0] != caller]


def with_pocket(table, corner, name):
    """Return the TABLE in which the POINT of a CORNER has this pocket."""
    pockets = pockets_elsewhere(table, corner)
    pockets.append((corner, name))
    return table_of(table[1], table[2], table[3], dials_told(table), pockets)


def without_pocket(table, corner):
    """Return the TABLE in which the POINT of a CORNER has no pocket."""
    return table_of(table[1], table[2], table[3], dials_told(table), pockets_elsewhere(table, corner))
